import PyProof.Rows.All
import Wide.All
import OpenK.AllK
import Wide.FinOn
import HandS.ForMost
import HandS.IsInst
import HandS.Property
import HandS.Codes
import HandS.Style
import HandS.WordsExc
import KE.KEqSeq
import HandS.Deep
import HandS.GenList
import HandS.GenYield
import KE.GoesMore
import PyProof.Draws
import KE.SortData
import KE.KUnpackStar
import HandS.CallLocal
import HandS.ClsMeth
import HandS.FStr
import HandS.StrMore
import KE.DataFind
import HandS.Conv
import HandS.SortInts
import KE.DataMinMax
import HandS.SortKw
import HandS.DictTup
import KE.KDictCopyH
import HandS.TupAny
import HandS.TupMul
import HandS.Wide
import HandS.Star
import HandS.NoneIn
import KE.KRevSl
import HandS.Lambda
import HandS.ExcIs
import HandS.TryOnly
import HandS.EndOwn
import KE.KNestM
import HandS.TupLen
import HandS.TupSets
import PySem.Challenge.RW_chasepost_k29_repeated_calls
set_option Elab.async false
set_option linter.all false
set_option maxRecDepth 100000
namespace Cp
open PySem L2
def top (i : Nat) : Stmt := PySem.Challenge.pw_chasepost_k29_repeated_calls.main.body.getD i (.Pass ⟨0, 0, 0, 0⟩)
/-! ### enumerate over a tuple: a walk for a for (the library's own serves lists) -/
section
open PyProof.Rows
open PySem.AutoSeq1 (wpAny_loadPart')
/-- what enumerate makes of a tuple: its iterator, then the enumerate object -/
abbrev enumHeap (g : Heap) (t : Addr) : Heap :=
  (g.push { cls := .type "tuple_iterator", data := .fields #[.ref t, .int 0 0] }).push { cls := .type "enumerate", data := .fields #[.none, .bool false, .ref g.objs.size, rawInt 0, .none, .none] }
theorem enumT_meets (t : Addr) (xs : Array Value) (k : Nat) (dd : Option Addr) (sv : Array (Option Value)) :
    Meets (Builtin.«enumerate.__new__» ⟨[.type "enumerate", .ref t], []⟩) (fun _ R s => s.heap.get? t = some { cls := .type "tuple", dict := dd, data := .seq xs k, slots := sv } ∧
      R (.ok (.ret (.ref (s.heap.objs.size + 1)))) { s with heap := enumHeap s.heap t }) :=
  .of_wp fun P1 w1 A1 R1 s1 h1 => by
    obtain ⟨hp, gg, dr, tks, oo⟩ := s1
    obtain ⟨ht, hR⟩ := h1
    have hz : (hp.push { cls := .type "tuple_iterator", data := .fields #[.ref t, .int 0 0] }).objs.size = hp.objs.size + 1 := Heap.size_push ..
    have subE := sub_enumerate
    have isT : Heap.IsTuple (Shared.heap ⟨hp, gg, dr, tks, oo⟩) t xs := ⟨_, ht, rfl, k, rfl⟩
    replace hR : R1 (.ok (.ret (.ref (hp.push { cls := .type "tuple_iterator", data := .fields #[.ref t, .int 0 0] }).objs.size))) ⟨enumHeap hp t, gg, dr, tks, oo⟩ := by rw [hz]; exact hR
    wp_walk using wpAny_loadPart' ht
    refine wpAny_stack_any fun stk => wpAny_pure ?_
    split
    · rename_i cc _ _ _ _ _
      cases (cc == Value.type "enumerate")
      · wp_walk using wpAny_loadPart' ht, wpAny_pyIter_tuple isT
        exact ⟨_, rfl, hR⟩
      · wp_walk using wpAny_loadPart' ht, wpAny_pyIter_tuple isT
        exact ⟨_, rfl, hR⟩
    · wp_walk using wpAny_loadPart' ht, wpAny_pyIter_tuple isT
      exact ⟨_, rfl, hR⟩
theorem enumT_call {P : Program} {w : World} {A : Around} {E : Value → Shared → Prop} {s : Shared} {t : Addr} {xs : Array Value} {Q : Value → Shared → Prop} (hT : s.heap.IsTuple t xs)
    (h : ∀ h', IsEnum h' (s.heap.objs.size + 1) s.heap.objs.size 0 .none → h'.IsTupleIter s.heap.objs.size t 0 → (∀ b o, s.heap.get? b = some o → h'.get? b = some o) → Q (.ref (s.heap.objs.size + 1)) { s with heap := h' }) :
    wpAny (model P w) A (call (.type "enumerate") [.ref t]) Q E s := by
  obtain ⟨⟨cv, dd, dv, sv⟩, ht, hc, k, hd⟩ := hT
  obtain rfl : cv = .type "tuple" := hc
  obtain rfl : dv = .seq xs k := hd
  refine callType_new F.called_enumerate (by decide) (F.typeCall_enumerate_1 _) (F.newCall_enumerate_1 _) (fun ob => F.args_object_init_2 ob _) F.entry_enumerate_new (enumT_meets t xs k dd sv) ⟨ht, ?_⟩
  have hz : (s.heap.push { cls := .type "tuple_iterator", data := .fields #[.ref t, .int 0 0] }).objs.size = s.heap.objs.size + 1 := Heap.size_push ..
  have q1 : IsEnum (enumHeap s.heap t) (s.heap.objs.size + 1) s.heap.objs.size 0 .none := by
    have q := Heap.get?_push_size (s.heap.push { cls := .type "tuple_iterator", data := .fields #[.ref t, .int 0 0] }) (o := { cls := .type "enumerate", data := .fields #[.none, .bool false, .ref s.heap.objs.size, rawInt 0, .none, .none] }) rfl
    rw [hz] at q
    exact q
  exact ⟨⟨_, q1, rfl⟩, h _ q1 ⟨_, Heap.get?_push_of_some _ (Heap.get?_push_size _ rfl), rfl, rfl⟩ fun b o x => Heap.get?_push_of_some _ (Heap.get?_push_of_some _ x)⟩
/-- the tuple at a as it stands, each item in a new pair with its number -/
def IteT (K : PySem.W.Frag) (a : Addr) : It :=
  ⟨fun i H => ∃ (xs : List V) (x : V), SqT K H a xs ∧ xs[i]? = some x, fun i H v H' => ∃ T x, v = .ref T ∧ H T = none ∧ H' = upd H T (.tup [.int (i : Nat), x]) ∧ ∀ xs, SqT K H a xs → xs[i]? = some x, fun i H => ∃ xs : List V, SqT K H a xs ∧ xs.length ≤ i⟩
theorem enumT_turn {P : Program} {w : World} {K : PySem.W.Frag} {elts : List Expr} {kk : Nat} {tpos : Pos} (a e it : Addr) (hai : a ≠ it) (hae : a ≠ e) :
    Turn P w K (.Tuple elts kk tpos) (IteT K a) [e, it] e (fun i h => (∃ old, IsEnum h e it ((i : Nat) : Int) old) ∧ h.IsTupleIter it a i ∧ e ≠ it) where
  mem := List.mem_cons_self
  obj := fun i h st b hb => by
    obtain ⟨⟨old, q1⟩, ⟨o, q2, _, q3⟩, _⟩ := st
    rcases List.mem_cons.mp hb with z | z
    · rw [z]
      exact ⟨_, q1, fun v q => nomatch q⟩
    · rw [List.mem_singleton.mp z]
      exact ⟨o, q2, fun v q => by rw [q3] at q; cases q⟩
  keep := fun i h h' st k => by
    obtain ⟨⟨old, q1⟩, ⟨o, q2, r⟩, q4⟩ := st
    exact ⟨⟨old, k e List.mem_cons_self _ q1⟩, ⟨o, k it (by simp) o q2, r⟩, q4⟩
  item := by
    rintro X rfl rfl rfl hc i pins s σ H E I hf ⟨⟨old, q1⟩, q2, q3⟩ ⟨xs, x, hq, hx⟩
    obtain ⟨its, rv, p, hz⟩ := I.tuple hq
    obtain ⟨u, hu, ru⟩ := rv.get hx
    have hel : e < s.heap.objs.size := Heap.lt_size q1
    have hil : it < s.heap.objs.size := by
      obtain ⟨_, q, _⟩ := q2
      exact Heap.lt_size q
    have tup : s.heap.IsTuple a its.toArray := p
    have hlt : i < its.toArray.size := by
      have z := (List.getElem?_eq_some_iff.mp hu).1
      simpa using z
    have D : Draws X.prog X.w X.A.in1 it [it, a] its.toArray.size (fun i v => its.toArray[i]? = some v) (fun i h => h.IsTupleIter it a i ∧ h.IsTuple a its.toArray) := Draws.tuple (by exact I.ok.hd hc) it a hai its.toArray
    refine wpAny_pyNext_enum_itemD D q1 ⟨q2, tup⟩ hlt q3 (by simp [q3, hae.symm]) fun y h' tk hP ho st' hT hsz hk => ?_
    obtain rfl : y = u := by
      have z : its.toArray[i]? = some u := by simpa using hu
      exact Option.some.inj (hP.symm.trans z)
    refine ⟨_, rfl, wpAny_letOwnedTupleGo_enum (s := { s with heap := h', toks := tk + 1 }) ho fun h2 q5 sb => ?_⟩
    have hT2 : h2.get? s.heap.objs.size = some { cls := .type "tuple", data := .seq #[.int i tk, y] } := (sb.2 _ (Nat.ne_of_gt hel)).trans hT
    have new : ObjOk X.prog X.w (upd H s.heap.objs.size (.tup [.int (i : Nat), x])) h2 s.heap.objs.size (.tup [.int (i : Nat), x]) :=
      ⟨by show 2 ≤ sizeLine; decide, [.int i tk, y], .cons ⟨_, rfl⟩ (.cons ru .nil), ⟨_, hT2, rfl, _, rfl⟩⟩
    have I2 : Inv X pins σ (upd H s.heap.objs.size (.tup [.int (i : Nat), x])) { s with heap := h2, toks := tk + 1 } :=
      I.turnedNew (ch := [e, it]) (fun b ob hb q => (sb.2 b (fun z => hb (by simp [z]))).trans (hk b ob (fun z => hb (by simp [z])) (fun z => hb (by simp [z])) q)) hf (Nat.le_refl _) new
    refine ⟨.ref s.heap.objs.size, _, I2, rfl, ⟨_, x, rfl, I.hok.fresh (Nat.le_refl _), rfl, fun ys hy => by rw [I.tuple_inj hy hq]; exact hx⟩, ⟨⟨y, ?_⟩, ?_, q3⟩, fun b hb => ?_⟩
    · rw [show ((i + 1 : Nat) : Int) = (i : Int) + 1 by omega]
      exact q5
    · obtain ⟨o, z, r⟩ := st'.1
      exact ⟨o, (sb.2 it (Ne.symm q3)).trans z, r⟩
    · have hb2 : b < s.heap.objs.size := by
        rcases List.mem_cons.mp hb with z | z
        · rw [z]; exact hel
        · rw [List.mem_singleton.mp z]; exact hil
      rw [upd_ne (Nat.ne_of_lt hb2)]
      exact (hf b hb).1
  done := by
    rintro X rfl rfl rfl hc i pins s σ H E I hf ⟨⟨old, q1⟩, q2, q3⟩ ⟨xs, hq, hx⟩
    obtain ⟨its, rv, p, hz⟩ := I.tuple hq
    obtain ⟨f0, f1, f2, f3, f4, f5⟩ := hf it (by simp)
    have hl := rv.length
    have tup : s.heap.IsTuple a its.toArray := p
    have hT : s.TypeIs (.ref e) "enumerate" := ⟨_, q1, rfl⟩
    unfold pyNext
    refine wpAny_bind (wpAny_attempt (wpAny_callSpecial?_slot (name := Str.ofString "__next__") hT F.slot_enumerate_next (wpAny_call_entry F.slot_enumerate_next hT F.entry_enumerate_next ?_ (F.args_enumerate_next_1 _))))
    show wpAny _ _ (field (.ref e) 2 >>= _) _ _ _
    refine wpAny_bind (wpAny_field q1 rfl (x := .ref it) rfl ?_)
    refine wpAny_bind (wpAny_nextOf_tuple_end (by exact I.ok.hd hc) q2 tup (by simp; omega) fun h' x eb hx' => ?_)
    obtain ⟨o, ho, hc'⟩ := hx'
    refine wpAny_bind (wpAny_isInstance (T := "StopIteration") (b := true) ⟨o, ho, hc'⟩ isSubtype_stop ?_)
    exact wpAny_pure ⟨rfl, I.turned (t' := s.toks) (fun b o hb q => eb b o hb q) f0 f1 f3 f4 f5⟩
  self := fun A i s Q E st h => wpAny_pyIter_enum st.1.choose_spec h
def iEnumT (K : PySem.W.Frag) (ta : TA) : TI := fun σ H R => ta σ H fun vs H1 => ∃ a xs, vs = [.ref a] ∧ H1 a = some (.tup xs) ∧ R (IteT K a) H1
theorem pi_enumT {X : Cx} {e : Expr} {ta : TA} {p pos tpos : Pos} {elts : List Expr} {kk : Nat} (hg : Gl X "enumerate") (hm : X.mg "enumerate" = none) (ha : PA X [e] ta) (hs : starEach [e] X.env = [(false, eval e X.env)] := by rfl) :
    PI X (.Tuple elts kk tpos) (.Call (.Name "enumerate" p) [e] [] pos) (iEnumT X.K ta) := by
  refine ⟨fun pins s σ H R I h => ?_⟩
  refine Call_ (ld_blt I hg hm boot_enumerate (PyProof.Rows.callWith_type1 (thn (ha.run pos pins s σ H _ I h) fun us s1 ⟨vs, H1, I1, r1, q1⟩ => ?_) hs rfl))
  obtain ⟨a, xs, rfl, hq, q⟩ := q1
  cases r1 with
  | cons r rr =>
    cases rr
    cases r
    obtain ⟨its, rv, p2, hz⟩ := I1.tuple (.inl (.inl hq))
    have tup : s1.heap.IsTuple a its.toArray := p2
    have hal : a < s1.heap.objs.size := p2.lt
    refine enumT_call tup fun h' q1 q2 hk => wpAny_pyIter_enum q1 ?_
    have I2 : Inv X pins σ H1 { s1 with heap := h' } := I1.kept (t' := s1.toks) hk
    refine ⟨s1.heap.objs.size + 1, [s1.heap.objs.size + 1, s1.heap.objs.size], _, _, H1, rfl, I2, enumT_turn a (s1.heap.objs.size + 1) s1.heap.objs.size (Nat.ne_of_lt hal) (Nat.ne_of_lt (Nat.lt_succ_of_lt hal)), ⟨⟨.none, q1⟩, q2, Nat.succ_ne_self _⟩, fun b hb => ?_, q⟩
    have hle : s1.heap.objs.size ≤ b := by
      rcases List.mem_cons.mp hb with z | z
      · rw [z]; exact Nat.le_add_right _ _
      · rw [List.mem_singleton.mp z]; exact Nat.le_refl _
    exact I1.fpOk hle (I1.hok.fresh hle)
end
/-! ### min and sorted of data, nested to any depth -/
section
open PySem.Spec PyProof.Rows
open PySem.W (alike alikeAll dataLt minD AlikeAll AllAlike Sortable EachIs sorted_data min_list_data readsAll_atA alike_unique dataLe)
/-- min(xs), xs a list of data that are alike -/
def rMinD (K : PySem.W.Frag) : List V → Hp → VK → Prop := fun vs H Q => ∃ (a : Addr) (xs : List V) (d : PyData) (ds : List PyData), vs = [V.ref a] ∧ SqL K H a xs ∧ DpAll K H xs (d :: ds) ∧ AlikeAll (d :: ds) ∧ PyData.depthAll (d :: ds) ≤ 60 ∧
  ∀ (i : Nat) x, xs[i]? = some x → (d :: ds)[i]? = some (minD d ds) → Q x H
theorem minD_mem : ∀ (ds : List PyData) (d : PyData), minD d ds ∈ d :: ds
  | [], d => List.mem_cons_self
  | e :: r, d => by
    show minD (if dataLt e d = true then e else d) r ∈ _
    have h := minD_mem r (if dataLt e d = true then e else d)
    rcases List.mem_cons.mp h with z | z
    · rw [z]
      split <;> simp
    · exact List.mem_cons_of_mem _ (List.mem_cons_of_mem _ z)
theorem cr_minD {X : Cx} (hc : X.calm = true) (hu : X.A.units + 65 < cLine) : CallR X (.builtin "min") (rMinD X.K) := by
  intro pins s σ H vs us Q I r h
  obtain ⟨a, xs, d, ds, rfl, hs, hd, ha, hdp, q⟩ := h
  obtain ⟨its, rv, hl, _⟩ := I.list hs
  rw [Vals.ref1 r]
  obtain ⟨as, hr⟩ := Dp.readsAll I (d :: ds) xs its hd rv
  refine min_list_data (I.ok.hd hc) hl.isList hr ha (by omega) fun i v h' tk bs hi rd hk => ?_
  have hi2 : its[i]? = some v := by simpa using hi
  have hil : i < xs.length := by
    rw [rv.length]
    exact (List.getElem?_eq_some_iff.mp hi2).1
  obtain ⟨u, hu2, ru⟩ := rv.get (List.getElem?_eq_getElem hil)
  obtain rfl : u = v := Option.some.inj (hu2.symm.trans hi2)
  obtain ⟨cs, rc, lt, mem, _⟩ := readsAll_atA hr i u hi
  have rd' := Reads.keeps hk rc
  have e : (d :: ds).getD i .none = minD d ds := alike_unique _ _ _ _ _ (ha.1 _ mem _ (minD_mem ds d)) rd' rd
  refine ⟨_, H, I.kept (t' := tk) hk, ru, q i _ (List.getElem?_eq_getElem hil) ?_⟩
  rw [← e, List.getD_eq_getElem?_getD, List.getElem?_eq_getElem lt]
  rfl
/-- sorted(xs), xs a list of data that are alike: a new list; R: what is known of each item -/
def rSortedD {β : Type} (enc : β → PyData) (K : PySem.W.Frag) : List V → Hp → VK → Prop := fun vs H Q => ∃ (a : Addr) (xs : List V) (bs : List β) (R : V → β → Prop), vs = [V.ref a] ∧ SqL K H a xs ∧ Paired R xs bs ∧ DpAll K H xs (bs.map enc) ∧ AllAlike (bs.map enc) ∧ Sortable (bs.map enc) ∧ (∀ b ∈ bs, (enc b).depth ≤ 60) ∧
  ∀ ys p, Paired R ys (bs.mergeSort (dataLe false enc)) → H p = none → Q (.ref p) (L2.upd H p (.lst ys))
theorem each_pairs {β : Type} {R : Value → β → Prop} {F : V → β → Prop} (h : ∀ v b, R v b → ∃ x, RelV x v ∧ F x b) : ∀ {out : List Value} {bs : List β}, EachIs R out bs → ∃ ys, Vals ys out ∧ Paired F ys bs
  | _, _, .nil => ⟨[], .nil, .nil⟩
  | _, _, .cons r t => by
    obtain ⟨ys, h1, h2⟩ := each_pairs h t
    obtain ⟨x, h3, h4⟩ := h _ _ r
    exact ⟨x :: ys, .cons h3 h1, .cons h4 h2⟩
theorem each_of {β : Type} {K : PySem.W.Frag} {H : Hp} {enc : β → PyData} {R : V → β → Prop} {R' : Value → β → Prop} : ∀ {xs : List V} {us : List Value} {bs : List β}, Vals xs us → Paired R xs bs → DpAll K H xs (bs.map enc) → (∀ x u b, RelV x u → R x b → Dp K H x (enc b) → R' u b) → EachIs R' us bs
  | _, _, [], rv, hr, hd, _ => by
    cases hd
    cases rv
    exact .nil
  | _, _, b :: bs, rv, hr, hd, h => by
    cases hd with
    | cons q t =>
      cases rv with
      | cons r rt =>
        cases hr with
        | cons p pt => exact .cons (h _ _ _ r p q) (each_of rt pt t h)
theorem cr_sortedD {β : Type} {X : Cx} (enc : β → PyData) (hu : X.A.units + 65 < cLine) : CallR X (.builtin "sorted") (rSortedD enc X.K) := by
  intro pins s σ H vs us Q I r h
  obtain ⟨a, xs, bs, R, rfl, hs, hR, hd, hal, hk, hdp, q⟩ := h
  obtain ⟨its, rv, hl, hz⟩ := I.list hs
  rw [Vals.ref1 r]
  have e1 : EachIs (fun v b => ∃ x, RelV x v ∧ R x b) its bs := each_of rv hR hd fun x u b hr hx _ => ⟨x, hr, hx⟩
  have e2 : EachIs (fun v b => ∃ as, Reads s.heap v (enc b) as) its bs := each_of rv hR hd fun x u b hr _ hd => Dp.reads I _ _ _ hd hr
  have hl2 := e1.length
  refine sorted_data hl.isList e1 e2 hal hk (by rw [← hl2, ← rv.length]; exact hz) (fun b hb => by have := hdp b hb; omega) fun out ho eo => ?_
  obtain ⟨ys, h1, h2⟩ := each_pairs (F := R) (fun v b ⟨x, a1, a2⟩ => ⟨x, a1, a2⟩) eo
  obtain ⟨ep, he'⟩ := PyProof.Rows.sortedAll_at s.heap its out.toArray
  have hlen : ys.length ≤ sizeLine := by
    rw [h1.length, ho, ← hl2, ← rv.length]
    exact hz
  exact ⟨.ref _, L2.upd H (s.heap.objs.size + 1) (.lst ys), I.laid (t' := s.toks) (fun _ _ => PyProof.Rows.sortedAll_old) (Nat.le_succ _) ⟨hlen, out, ep, h1, he'⟩, rfl, q ys _ h2 (I.hok.fresh (Nat.le_succ _))⟩
end
/-! ### xs.count(x), x data of any depth -/
section
open PySem.Spec PyProof.Rows
def rCntD (K : PySem.W.Frag) : V → List V → Hp → VK → Prop := fun x xs H Q => ∃ (a : Addr) (ys : List V) (y : V) (d : PyData) (ds : List PyData), x = V.ref a ∧ xs = [y] ∧ SqL K H a ys ∧ DpAll K H ys ds ∧ Dp K H y d ∧ PyData.plainAll ds = true ∧ d.plain = true ∧ d.depth ≤ 60 ∧ Q (.int ((ds.countP fun z => PyData.eqv z d : Nat) : Int)) H
theorem mt_countD {X : Cx} (hu : X.A.units + 65 < cLine) : MtR X "list.count" (rCntD X.K) := by
  intro pins s σ H x xs v us Q I rx rxs h
  obtain ⟨a, ys, y, d, ds, rfl, rfl, hl, hds, hd, p1, p2, hdp, q⟩ := h
  cases rx
  cases rxs with
  | cons ry rt =>
    rename_i uy ut
    cases rt
    obtain ⟨bs, r1⟩ := Dp.reads I d y uy hd ry
    obtain ⟨its, rv, hL, _⟩ := I.list hl
    obtain ⟨as, hr⟩ := Dp.readsAll I ds ys its hds rv
    refine PySem.SeqAt.count_list_data hL.isList hr r1 p1 p2 (by omega) ⟨.int _, H, I.tok _, ⟨_, rfl⟩, q⟩
end
/-! ### max(xs, default=d), xs a list of ints -/
section
open PySem.Spec PyProof.Rows
open PySem.W (alike alikeAll dataLt maxD AlikeAll max_list_default)
def rMaxDef (K : PySem.W.Frag) : List V → List V → Hp → VK → Prop := fun vs zs H Q => ∃ (a : Addr) (ns : List Int) (d : V), vs = [V.ref a] ∧ zs = [d] ∧ SqL K H a (ns.map V.int) ∧ (ns = [] → Q d H) ∧ ∀ m, m ∈ ns → (∀ y, y ∈ ns → y ≤ m) → Q (.int m) H
def maxI (x : Int) (xs : List Int) : Int := xs.foldl (fun a y => if a < y then y else a) x
theorem maxI_spec : ∀ (xs : List Int) (x : Int), maxI x xs ∈ x :: xs ∧ ∀ y ∈ x :: xs, y ≤ maxI x xs
  | [], x => ⟨List.mem_cons_self, fun y hy => by rw [List.mem_singleton.mp hy]; exact Int.le_refl _⟩
  | z :: r, x => by
    obtain ⟨h1, h2⟩ := maxI_spec r (if x < z then z else x)
    have e : maxI x (z :: r) = maxI (if x < z then z else x) r := rfl
    rw [e]
    have h3 := h2 _ List.mem_cons_self
    refine ⟨?_, fun y hy => ?_⟩
    · rcases List.mem_cons.mp h1 with q | q
      · rw [q]
        split <;> simp
      · exact List.mem_cons_of_mem _ (List.mem_cons_of_mem _ q)
    · rcases List.mem_cons.mp hy with q | q
      · rw [q]
        split at h3 <;> rename_i c
        · rw [if_pos c]; omega
        · rw [if_neg c]; omega
      · rcases List.mem_cons.mp q with q | q
        · rw [q]
          split at h3 <;> rename_i c
          · rw [if_pos c]; omega
          · rw [if_neg c]; omega
        · exact h2 y (List.mem_cons_of_mem _ q)
theorem maxD_int : ∀ (xs : List Int) (x : Int), maxD (.int x) (xs.map PyData.int) = .int (maxI x xs)
  | [], x => rfl
  | y :: ys, x => by
    show maxD (if dataLt (.int x) (.int y) = true then .int y else .int x) (ys.map PyData.int) = .int (maxI (if x < y then y else x) ys)
    rw [PySem.W.dataLt_int]
    by_cases c : x < y
    · rw [if_pos (decide_eq_true c), if_pos c]
      exact maxD_int ys y
    · rw [if_neg (by rw [decide_eq_false c]; exact Bool.false_ne_true), if_neg c]
      exact maxD_int ys x
theorem ints_dp {K : PySem.W.Frag} {H : Hp} : ∀ ns : List Int, DpAll K H (ns.map V.int) (ns.map PyData.int)
  | [] => .nil
  | n :: ns => .cons (.int _) (ints_dp ns)
theorem ints_alike (ns : List Int) : AlikeAll (ns.map PyData.int) := by
  refine ⟨fun x hx y hy => ?_, fun x hx => ?_⟩
  · obtain ⟨s, _, rfl⟩ := List.mem_map.mp hx
    obtain ⟨t, _, rfl⟩ := List.mem_map.mp hy
    simp [alike]
  · obtain ⟨s, _, rfl⟩ := List.mem_map.mp hx
    intro e
    cases e
theorem ints_depth : ∀ ns : List Int, PyData.depthAll (ns.map PyData.int) = 0
  | [] => by simp [PyData.depthAll]
  | n :: ns => by simp [PyData.depthAll, PyData.depth, ints_depth ns]
theorem cr_maxDef {X : Cx} (hc : X.calm = true) (hu : X.A.units + 65 < cLine) : CallRK X (.builtin "max") [Str.ofString "default"] (rMaxDef X.K) := by
  intro pins s σ H vs zs us ws Q I r rz h
  obtain ⟨a, ns, d, rfl, rfl, hs, q0, q⟩ := h
  obtain ⟨its, rv, hl, _⟩ := I.list hs
  rw [Vals.ref1 r]
  cases rz with
  | cons rd rt =>
    cases rt
    rename_i dv
    obtain ⟨as, hr⟩ := Dp.readsAll I (ns.map PyData.int) (ns.map V.int) its (ints_dp ns) rv
    refine max_list_default (I.ok.hd hc) hl.isList hr (ints_alike ns) (by rw [ints_depth]; omega) (fun e h' tk hk => ?_) fun y ys i v h' tk bs e hi rd' hk => ?_
    · exact ⟨d, H, I.kept (t' := tk) hk, rd, q0 (List.map_eq_nil_iff.mp e)⟩
    · cases ns with
      | nil => cases e
      | cons n ns =>
        rw [List.map_cons] at e
        injection e with e1 e2
        subst e1
        subst e2
        rw [maxD_int] at rd'
        obtain ⟨m1, m2⟩ := maxI_spec ns n
        have hi2 : its[i]? = some v := by simpa using hi
        have hil : i < (List.map V.int (n :: ns)).length := by
          rw [rv.length]
          exact (List.getElem?_eq_some_iff.mp hi2).1
        obtain ⟨u, hu2, ru⟩ := rv.get (List.getElem?_eq_getElem hil)
        obtain rfl : u = v := Option.some.inj (hu2.symm.trans hi2)
        cases rd'
        exact ⟨.int _, H, I.kept (t' := tk) hk, ⟨_, rfl⟩, q _ m1 m2⟩
end
/-! ### d.values(), list(d.values()) of a dict whose keys are tuples -/
section
open PySem.Spec PyProof.Rows
/-- the view d.values() at p -/
def valsO (p d : Addr) : HO := .ext fun h => h.IsValuesView p d
theorem valsO_ok {P : Program} {w : World} {H : Hp} {h : Heap} {p d : Addr} (e : h.get? p = some { cls := .type "dict_values", data := .fields #[.ref d] }) : ObjOk P w H h p (valsO p d) :=
  ⟨⟨_, e, rfl, rfl⟩, ⟨_, e⟩, fun h1 h2 x k => let ⟨o, ho, r⟩ := x; ⟨o, k o ho, r⟩⟩
variable {X : Cx}
def rValuesT : V → List V → Hp → VK → Prop := fun x xs H Q => ∃ (a : Addr) (kvs : List (List L2.Key × V)), x = .ref a ∧ xs = [] ∧ H a = some (.dT kvs) ∧ ∀ p, H p = none → Q (.ref p) (L2.upd H p (valsO p a))
theorem mt_valuesT : MtR X "dict.values" rValuesT := by
  intro pins s σ H x xs v us Q I rx rxs h
  obtain ⟨a, kvs, rfl, rfl, ha, q⟩ := h
  cases rx
  cases rxs
  obtain ⟨z, hd, xs', rel, o, es, ep, ho, hx, hdat, _⟩ := dt_of I.hok ha
  have raw : s.heap.DictRaw a es ep := ⟨o, ho, hx, hdat⟩
  refine call_meetsIn PySem.F.slot_dict_values raw.typeIs PySem.F.entry_dict_values (PySem.F.args_dict_values_1 _) (PySem.meets_dict_values_raw a hd) ⟨⟨es, ep, raw⟩, ?_⟩
  have hf : H s.heap.objs.size = none := I.hok.fresh (Nat.le_refl _)
  exact ⟨.ref s.heap.objs.size, L2.upd H s.heap.objs.size (valsO s.heap.objs.size a), I.laid (t' := s.toks) (fun b u e => Heap.get?_push_of_some _ e) (Nat.le_refl _) (valsO_ok (Heap.get?_push_size _ rfl)), rfl, q _ hf⟩
theorem kt_vals {H : Hp} : ∀ {kvs : List (List L2.Key × V)} {xs : List (List L2.Key × Addr × Value)}, KT H kvs xs → Vals (kvs.map (·.2)) (xs.map fun x => x.2.2)
  | _, _, .nil => .nil
  | _, _, .cons h t => .cons h.2.2 (kt_vals t)
theorem call_list_valuesT (hc : X.calm = true) : CallR X (.type "list") (fun xs H Q => ∃ (v d : Addr) (kvs : List (List L2.Key × V)), xs = [V.ref v] ∧ H v = some (valsO v d) ∧ H d = some (.dT kvs) ∧ ∀ p, H p = none → Q (.ref p) (L2.upd H p (.lst (kvs.map (·.2))))) := by
  intro pins s σ H xs us Q I r h
  obtain ⟨v, d, kvs, rfl, hv, hd, q⟩ := h
  obtain ⟨u, rfl, rx⟩ := r.one
  cases rx
  obtain ⟨z, hs, ks, pr, o, es, ep, ho, hx, hdt, he, hn⟩ := dt_of I.hok hd
  have hvv : s.heap.IsValuesView v d := (show ObjOk X.prog X.w H s.heap v (valsO v d) from I.hok v _ hv).1
  have raw : s.heap.DictRaw d es ep := ⟨o, ho, hx, hdt⟩
  have l1 : es.size = ks.length := size_of_entries he
  have l2 : kvs.length = ks.length := Paired.length pr
  refine PySem.W.kdl_call PySem.KdlSrc.rawValues (I.ok.hd hc) ⟨hvv, raw⟩ (by omega) fun h' tk acc' c' kp e it => ?_
  have ea : acc'.toList = ks.map fun x => x.2.2 := by
    have hl : acc'.toList.length = ks.length := by rw [Array.length_toList, it.1]; exact l1
    apply List.ext_getElem?
    intro j
    rw [List.getElem?_map]
    cases hj : acc'.toList[j]? with
    | none =>
      have h1 := List.getElem?_eq_none_iff.mp hj
      rw [List.getElem?_eq_none (by omega)]
      all_goals rfl
    | some v =>
      obtain ⟨hi, hv⟩ := it.2 j v (by rw [← Array.getElem?_toList]; exact hj)
      have qe := entry_at he j
      rw [Array.getElem?_eq_getElem hi] at qe
      cases hb : ks[j]? with
      | none =>
        rw [hb] at qe
        exact nomatch (show some es[j] = none from qe)
      | some b =>
        rw [hb] at qe
        have e2 : es[j] = entryOfKey (tupleKind (mixKind X.prog X.w)) b := Option.some.inj qe
        rw [hv, e2]
        all_goals rfl
  have rv : Vals (kvs.map (·.2)) acc'.toList := by
    rw [ea]
    exact kt_vals pr
  have hz : (kvs.map (·.2)).length ≤ sizeLine := by rw [List.length_map]; omega
  refine ⟨.ref s.heap.objs.size, _, I.laid (t' := tk) (o := .lst (kvs.map (·.2))) kp (Nat.le_refl _) ?_, rfl, q _ (I.hok.fresh (Nat.le_refl _))⟩
  exact ⟨hz, acc'.toList, c', rv, by rw [Array.toArray_toList]; exact e⟩
end
/-! ### xs * k of a tuple, k 0 or 1 -/
section
open PySem.Spec PyProof.Rows
theorem tuple_mul1 (l : Addr) (items : Array Value) (n : Nat) (dd : Option Addr) (sl : Array (Option Value)) (u : Tok) :
    Meets (Builtin.«tuple.__mul__» ⟨[.ref l, .int 1 u], []⟩) (fun _ R s => s.heap.get? l = some { cls := .type "tuple", dict := dd, data := .seq items n, slots := sl } ∧ R (.ok (.ret (.ref l))) s) :=
  .of_wp fun prog w A R s h => by
    obtain ⟨hp, g, d, tk, os⟩ := s
    obtain ⟨hl, h⟩ := h
    have f1 := AutoSeq1.idx_int
    have c1 : (items.isEmpty || (1 : Int) == 1) = true := by rw [Bool.or_eq_true]; exact .inr rfl
    wp_walk using wpAny_loadPart' hl
    repeat (first
      | (refine wpAny_ite_false (decide_eq_false (by decide)) ?_; wp_walk using wpAny_loadPart' hl)
      | (refine wpAny_ite_true (decide_eq_true c1) ?_; wp_walk using wpAny_loadPart' hl))
    exact ⟨_, rfl, h⟩
theorem tuple_mul0 (l : Addr) (items : Array Value) (n : Nat) (dd : Option Addr) (sl : Array (Option Value)) (u : Tok) (hi : items.isEmpty = false) :
    Meets (Builtin.«tuple.__mul__» ⟨[.ref l, .int 0 u], []⟩) (fun _ R s => s.heap.get? l = some { cls := .type "tuple", dict := dd, data := .seq items n, slots := sl } ∧ R (.ok (.ret (.ref s.heap.objs.size))) { s with heap := s.heap.push { cls := Value.type "tuple", data := Data.seq #[] }, toks := s.toks }) :=
  .of_wp fun prog w A R s h => by
    obtain ⟨hp, g, d, tk, os⟩ := s
    obtain ⟨hl, h⟩ := h
    have f1 := AutoSeq1.idx_int
    have c1 : ¬ (items.isEmpty || (0 : Int) == 1) = true := by rw [hi]; decide
    have c2 : (decide ((0 : Int) ≤ 0) || items.isEmpty) = true := by rw [hi]; decide
    wp_walk using wpAny_loadPart' hl
    repeat (first
      | (refine wpAny_ite_false (decide_eq_false (by decide)) ?_; wp_walk using wpAny_loadPart' hl)
      | (refine wpAny_ite_false (decide_eq_false c1) ?_; wp_walk using wpAny_loadPart' hl)
      | (refine wpAny_ite_true (decide_eq_true c2) ?_; wp_walk using wpAny_loadPart' hl))
    exact ⟨_, rfl, h⟩
def rRep01 (K : PySem.W.Frag) : R2 := fun x y H Q => ∃ l k xs, x = .ref l ∧ y = .int k ∧ SqT K H l xs ∧ xs ≠ [] ∧ (k = 0 ∨ k = 1) ∧ (k = 1 → Q (.ref l) H) ∧ (k = 0 → ∀ p, H p = none → Q (.ref p) (L2.upd H p (.tup [])))
theorem op_rep01 {X : Cx} : OpR X (binaryOp .Mult) (rRep01 X.K) := by
  intro pins s σ H x y v u Q I rx ry h
  obtain ⟨l, k, xs, rfl, rfl, hT, hne, hk, q1, q0⟩ := h
  cases rx
  obtain ⟨t, rfl⟩ := ry
  obtain ⟨its, r, ⟨⟨cls, dd, data, sl⟩, ho, hc, n, hd⟩, hs⟩ := I.tuple hT
  simp only at hc hd
  subst hc hd
  have hn : its ≠ [] := fun e => hne (by
    have := r.length
    rw [e] at this
    exact List.eq_nil_of_length_eq_zero this)
  have hi : its.toArray.isEmpty = false := by
    cases its with
    | nil => exact absurd rfl hn
    | cons a b => rfl
  rcases hk with rfl | rfl
  · refine wpAny_binaryOp_repeat_ref (T := "tuple") (U := "int") (by decide) ⟨_, ho, rfl⟩ (fun s' => typeIs_int s' 0 t) noFill_tuple_mul PySem.F.fills_int_mul PySem.F.slot_int_rmul repeat_tuple PySem.F.slot_int_index.lookup
      (call_meets PySem.F.slot_int_rmul (typeIs_int s 0 t) PySem.F.entry_int_rmul (PySem.F.args_int_rmul_2 _ _) (int_rmul_tuple 0 t l its.toArray n dd sl)
        ⟨ho, rfl, ⟨_, ho, rfl⟩, call_meets PySem.F.slot_tuple_mul ⟨_, ho, rfl⟩ PySem.F.entry_tuple_mul (PySem.F.args_tuple_mul_2 _ _) (tuple_mul0 l its.toArray n dd sl t hi) ⟨ho, ?_⟩⟩)
    refine ⟨.ref s.heap.objs.size, _, I.laid (t' := s.toks) (o := .tup []) (fun b ob q => Heap.get?_push_of_some _ q) (Nat.le_refl _) ?_, rfl, q0 rfl _ (I.hok.fresh (Nat.le_refl _))⟩
    exact ⟨Nat.zero_le _, [], .nil, IsTup.new _ _⟩
  · refine wpAny_binaryOp_repeat_ref (T := "tuple") (U := "int") (by decide) ⟨_, ho, rfl⟩ (fun s' => typeIs_int s' 1 t) noFill_tuple_mul PySem.F.fills_int_mul PySem.F.slot_int_rmul repeat_tuple PySem.F.slot_int_index.lookup
      (call_meets PySem.F.slot_int_rmul (typeIs_int s 1 t) PySem.F.entry_int_rmul (PySem.F.args_int_rmul_2 _ _) (int_rmul_tuple 1 t l its.toArray n dd sl)
        ⟨ho, rfl, ⟨_, ho, rfl⟩, call_meets PySem.F.slot_tuple_mul ⟨_, ho, rfl⟩ PySem.F.entry_tuple_mul (PySem.F.args_tuple_mul_2 _ _) (tuple_mul1 l its.toArray n dd sl t) ⟨ho, ?_⟩⟩)
    exact ⟨.ref l, H, I, rfl, q1 rfl⟩
end
/-! ### a comprehension over two ranges -/
theorem lc2_rng {lo : Int} {n : Nat} {g : TG} {tt tt1 : TT} {wi1 : TI} {g1 : TG} {te : TE} {vs vs1 : List Nat} {σ : L2.St} {H1 : Hp} {D : Addr} {Qd : Hp → Prop} (Pv : Nat → Hp → Prop) (h0 : Pv 0 (upd H1 D (.lst [])))
    (hs : ∀ i H, i < n → Pv i H → g (.int (lo + i)) (wipe σ vs) H fun σ2 H2 => wipe σ2 vs = wipe σ vs ∧ tt σ2 H2 fun b H3 =>
      if b = true then wi1 σ2 H3 fun J1 H4 => ∃ W1 : Nat → Nat → Hp → Prop, (∃ m, W1 0 m H4) ∧ ∀ j k H, W1 j k H →
          (J1.stop j H ∧ Pv (i + 1) H) ∨ (J1.go j H ∧ ∃ Nx1 : Hp → Prop, (∀ H', Nx1 H' → ∃ k', k' < k ∧ W1 (j + 1) k' H') ∧ ∀ x H', J1.yld j H x H' → g1 x (wipe σ2 vs1) H' fun σ3 H5 => wipe σ3 vs1 = wipe σ2 vs1 ∧ tt1 σ3 H5 fun b H6 =>
            if b = true then te σ3 H6 fun y H7 => ∃ acc, H7 D = some (.lst acc) ∧ acc.length < sizeLine ∧ Nx1 (upd H7 D (.lst (acc ++ [y]))) else Nx1 H6)
      else Pv (i + 1) H3) (hd : ∀ H, Pv n H → Qd H) :
    ∃ W : Nat → Nat → Hp → Prop, (∃ m, W 0 m (upd H1 D (.lst []))) ∧ ∀ i m H, W i m H →
      ((Itr lo n).stop i H ∧ Qd H) ∨ ((Itr lo n).go i H ∧ ∃ Nx : Hp → Prop, (∀ H', Nx H' → ∃ m', m' < m ∧ W (i + 1) m' H') ∧ ∀ x H', (Itr lo n).yld i H x H' → g x (wipe σ vs) H' fun σ2 H2 => wipe σ2 vs = wipe σ vs ∧ tt σ2 H2 fun b H3 =>
        if b = true then wi1 σ2 H3 fun J1 H4 => ∃ W1 : Nat → Nat → Hp → Prop, (∃ m, W1 0 m H4) ∧ ∀ j k H, W1 j k H →
          (J1.stop j H ∧ Nx H) ∨ (J1.go j H ∧ ∃ Nx1 : Hp → Prop, (∀ H', Nx1 H' → ∃ k', k' < k ∧ W1 (j + 1) k' H') ∧ ∀ x H', J1.yld j H x H' → g1 x (wipe σ2 vs1) H' fun σ3 H5 => wipe σ3 vs1 = wipe σ2 vs1 ∧ tt1 σ3 H5 fun b H6 =>
            if b = true then te σ3 H6 fun y H7 => ∃ acc, H7 D = some (.lst acc) ∧ acc.length < sizeLine ∧ Nx1 (upd H7 D (.lst (acc ++ [y]))) else Nx1 H6)
        else Nx H3) := by
  refine ⟨fun i m H => m = n - i ∧ i ≤ n ∧ Pv i H, ⟨n, by simp, Nat.zero_le _, h0⟩, ?_⟩
  rintro i m H ⟨rfl, hi, p⟩
  by_cases hlt : i < n
  · refine .inr ⟨hlt, Pv (i + 1), fun H' p' => ⟨n - (i + 1), by omega, rfl, hlt, p'⟩, fun x H' y => ?_⟩
    obtain ⟨e, y⟩ := y
    subst e y
    exact hs i _ hlt p
  · have e : i = n := by omega
    subst e
    exact .inl ⟨Nat.le_refl _, hd H p⟩
theorem in_rng {lo : Int} {n : Nat} {g1 : TG} {tt1 : TT} {te : TE} {vs1 : List Nat} {σ2 : L2.St} {H4 : Hp} {D : Addr} {Nx : Hp → Prop} (Pv : Nat → Hp → Prop) (h0 : Pv 0 H4)
    (hs : ∀ i H, i < n → Pv i H → g1 (.int (lo + i)) (wipe σ2 vs1) H fun σ3 H5 => wipe σ3 vs1 = wipe σ2 vs1 ∧ tt1 σ3 H5 fun b H6 =>
      if b = true then te σ3 H6 fun y H7 => ∃ acc, H7 D = some (.lst acc) ∧ acc.length < sizeLine ∧ Pv (i + 1) (upd H7 D (.lst (acc ++ [y]))) else Pv (i + 1) H6) (hd : ∀ H, Pv n H → Nx H) :
    ∃ W1 : Nat → Nat → Hp → Prop, (∃ m, W1 0 m H4) ∧ ∀ j k H, W1 j k H →
      ((Itr lo n).stop j H ∧ Nx H) ∨ ((Itr lo n).go j H ∧ ∃ Nx1 : Hp → Prop, (∀ H', Nx1 H' → ∃ k', k' < k ∧ W1 (j + 1) k' H') ∧ ∀ x H', (Itr lo n).yld j H x H' → g1 x (wipe σ2 vs1) H' fun σ3 H5 => wipe σ3 vs1 = wipe σ2 vs1 ∧ tt1 σ3 H5 fun b H6 =>
        if b = true then te σ3 H6 fun y H7 => ∃ acc, H7 D = some (.lst acc) ∧ acc.length < sizeLine ∧ Nx1 (upd H7 D (.lst (acc ++ [y]))) else Nx1 H6) := by
  refine ⟨fun i m H => m = n - i ∧ i ≤ n ∧ Pv i H, ⟨n, by simp, Nat.zero_le _, h0⟩, ?_⟩
  rintro i m H ⟨rfl, hi, p⟩
  by_cases hlt : i < n
  · refine .inr ⟨hlt, Pv (i + 1), fun H' p' => ⟨n - (i + 1), by omega, rfl, hlt, p'⟩, fun x H' y => ?_⟩
    obtain ⟨e, y⟩ := y
    subst e y
    exact hs i _ hlt p
  · have e : i = n := by omega
    subst e
    exact .inl ⟨Nat.le_refl _, hd H p⟩
/-! ### plain mathematics: orders, the first valid one, ways -/
structure Od where
  s : Nat
  t : Nat
  f : Nat
  n : Nat
  e : Nat
def Od.vs (o : Od) : List V := [.int o.s, .int o.t, .int o.f, .int o.n, .int o.e]
structure OdOk (p h : Nat) (o : Od) : Prop where
  s : o.s < h
  t : o.t < h
  st : o.s ≠ o.t
  f : o.f < p
  n1 : 1 ≤ o.n
  n : o.n ≤ p
  e1 : 1 ≤ o.e
  e : o.e ≤ 9
/-- the order o is valid on the day d of a net of period p -/
def onDay (p : Nat) (o : Od) (d : Int) : Bool := decide ((d - (o.f : Int)) % (p : Int) < (o.n : Int))
def hit (p : Nat) (s : Nat) (d : Int) (o : Od) : Bool := decide (o.s = s) && onDay p o d
/-- the number of the order that is followed -/
def idx (p : Nat) (os : List Od) (s : Nat) (d : Int) : Option Nat := os.findIdx? (hit p s d)
def optV : Option Nat → V
  | none => .non
  | some k => .int k
theorem optV_flat (o : Option Nat) : flatV (optV o) = true := by cases o <;> rfl
theorem idx_mod (p : Nat) (os : List Od) (s : Nat) (d : Int) : idx p os s (d % (p : Int)) = idx p os s d := by
  unfold idx
  congr 1
  funext o
  unfold hit onDay
  rw [Int.emod_sub_emod]
theorem idx_nat (p : Nat) (os : List Od) (s d : Nat) : idx p os s ((d % p : Nat) : Int) = idx p os s (d : Int) := by
  rw [Int.natCast_emod]
  exact idx_mod p os s d
theorem idx_later (p : Nat) (os : List Od) (s d k : Nat) : idx p os s ((d + p * k : Nat) : Int) = idx p os s (d : Int) := by
  rw [← idx_nat p os s (d + p * k), Nat.add_mul_mod_self_left, idx_nat]
theorem idx_lt {p : Nat} {os : List Od} {s k : Nat} {d : Int} (h : idx p os s d = some k) : k < os.length := by
  unfold idx at h
  exact (List.findIdx?_eq_some_iff_getElem.mp h).1
theorem idx_take_succ {p : Nat} {os : List Od} {s k : Nat} {d : Int} {o : Od} (h : os[k]? = some o) :
    idx p (os.take (k + 1)) s d = (idx p (os.take k) s d).or (if hit p s d o = true then some k else none) := by
  obtain ⟨hk, ho⟩ := List.getElem?_eq_some_iff.mp h
  unfold idx
  rw [List.take_add_one, h, Option.toList_some, List.findIdx?_append, List.findIdx?_singleton]
  have hl : (os.take k).length = k := by rw [List.length_take]; omega
  rw [hl]
  cases hh : hit p s d o with
  | true => simp
  | false => simp
/-- which days of the period are among the first l days of an order -/
def among (p f l d : Nat) : Prop := ∃ j, j < l ∧ (f + j) % p = d
theorem among_zero (p f d : Nat) : ¬ among p f 0 d := fun ⟨_, h, _⟩ => absurd h (Nat.not_lt_zero _)
theorem among_succ {p f l d : Nat} : among p f (l + 1) d ↔ among p f l d ∨ (f + l) % p = d := by
  constructor
  · rintro ⟨j, hj, e⟩
    by_cases z : j = l
    · subst z
      exact .inr e
    · exact .inl ⟨j, by omega, e⟩
  · rintro (⟨j, hj, e⟩ | e)
    · exact ⟨j, by omega, e⟩
    · exact ⟨l, by omega, e⟩
theorem among_on {p h d : Nat} {o : Od} (k : OdOk p h o) (hd : d < p) : among p o.f o.n d ↔ onDay p o (d : Int) = true := by
  unfold onDay
  rw [decide_eq_true_iff]
  have kf := k.f
  have kn := k.n
  have key : ((d : Int) - (o.f : Int)) % (p : Int) = if o.f ≤ d then (d : Int) - o.f else (d : Int) - o.f + p := by
    split
    · exact Int.emod_eq_of_lt (by omega) (by omega)
    · rw [← Int.add_emod_right]
      exact Int.emod_eq_of_lt (by omega) (by omega)
  rw [key]
  constructor
  · rintro ⟨j, hj, e⟩
    by_cases q : o.f + j < p
    · rw [Nat.mod_eq_of_lt q] at e
      rw [if_pos (by omega)]
      omega
    · have e2 : (o.f + j) % p = o.f + j - p := by
        rw [Nat.mod_eq_sub_mod (by omega), Nat.mod_eq_of_lt (by omega)]
      rw [e2] at e
      split
      · omega
      · omega
  · intro q
    by_cases c : o.f ≤ d
    · rw [if_pos c] at q
      exact ⟨d - o.f, by omega, by rw [show o.f + (d - o.f) = d by omega]; exact Nat.mod_eq_of_lt hd⟩
    · rw [if_neg c] at q
      refine ⟨d + p - o.f, by omega, ?_⟩
      rw [show o.f + (d + p - o.f) = d + p by omega, Nat.add_mod_right]
      exact Nat.mod_eq_of_lt hd
/-- one hop of a letter at a house on a day -/
def hop (p : Nat) (os : List Od) (st : Nat × Nat) : Option (Nat × Nat) :=
  match idx p os st.1 (st.2 : Int) with
  | none => none
  | some k => (os[k]?).map fun o => (o.t, st.2 + o.e)
/-- the first n stops of a letter -/
def way (p : Nat) (os : List Od) : Nat → Nat × Nat → List (Nat × Nat)
  | 0, _ => []
  | n + 1, st => st :: match hop p os st with
    | none => []
    | some st' => way p os n st'
/-! ### heaps -/
/-- all but what stands at d is as it was -/
def But (d : Addr) (H H' : Hp) : Prop := ∀ b o, b ≠ d → H b = some o → H' b = some o
theorem But.refl {d : Addr} {H : Hp} : But d H H := fun _ _ _ e => e
theorem But.trans {d : Addr} {H H1 H2 : Hp} (a : But d H H1) (b : But d H1 H2) : But d H H2 := fun c o n e => b c o n (a c o n e)
theorem But.of {d : Addr} {H H' : Hp} (s : Same H H') : But d H H' := fun b o _ e => s b o e
theorem But.upd {d : Addr} {H : Hp} {o : HO} : But d H (upd H d o) := fun b u n e => by rw [upd_ne n]; exact e
theorem same_upd {H : Hp} {p : Addr} {o : HO} (h : H p = none) : Same H (L2.upd H p o) := fun b x e => by
  rw [upd_ne (ne_of_none e h)]
  exact e
theorem same_updN {H H' : Hp} {p : Addr} {o : HO} (s : Same H H') (h : H p = none) : Same H (L2.upd H' p o) := fun b x e => by
  rw [upd_ne (ne_of_none e h)]
  exact s b x e
theorem But.new {d p : Addr} {H : Hp} {o : HO} (h : H p = none) : But d H (L2.upd H p o) := But.of (same_upd h)
theorem But.free {d p : Addr} {H H' : Hp} {o : HO} (s : But d H H') (hd : H' d = some o) (h : H' p = none) : H p = none := by
  cases q : H p with
  | none => rfl
  | some u =>
    by_cases e : p = d
    · rw [e, hd] at h
      cases h
    · rw [s p u e q] at h
      cases h
/-- the tail of ints of the source of numbers -/
def DL (s c : Nat) (r : List Nat) : List V := .int s :: .int c :: r.map fun (n : Nat) => V.int (n : Int)
def DAt (H : Hp) (d : Addr) : Prop := ∃ s c r, s < 2147483647 ∧ r.length ≤ 63 ∧ H d = some (.lst (DL s c r))
theorem DAt.but {H H' : Hp} {d : Addr} (h : DAt H d) (s : Same H H') : DAt H' d := by
  obtain ⟨a, b, c, h1, h2, h3⟩ := h
  exact ⟨a, b, c, h1, h2, s _ _ h3⟩
theorem DAt.som {H : Hp} {d : Addr} (h : DAt H d) : ∃ o, H d = some o := by
  obtain ⟨a, b, c, h1, h2, h3⟩ := h
  exact ⟨_, h3⟩
theorem dl0 {s c : Nat} {r : List Nat} : atI (DL s c r) 0 = some (.int s) := atI_nat (j := 0) rfl
theorem dl1 {s c : Nat} {r : List Nat} : atI (DL s c r) 1 = some (.int c) := atI_nat (j := 1) rfl
theorem ix_at {n j : Nat} (hj : j < n) : ixN n (j : Int) = some j := by
  unfold ixN
  rw [if_pos (by omega), if_pos (by omega)]
  simp
theorem seqIx {n j : Nat} (hj : j < n) : seqIndex? (j : Int) n = some j := by
  unfold seqIndex?
  have h1 : ¬ (j : Int) < 0 := by omega
  have h2 : (decide (0 ≤ (j : Int)) && decide ((j : Int) < (n : Int))) = true := by
    rw [decide_eq_true (show 0 ≤ (j : Int) by omega), decide_eq_true (show (j : Int) < (n : Int) by omega)]
    rfl
  simp only [if_neg h1]
  rw [if_pos h2]
  simp
theorem fmod_nat (a b : Nat) : (a : Int).fmod (b : Int) = ((a % b : Nat) : Int) := by
  rw [Int.fmod_eq_emod_of_nonneg _ (by omega)]
  rfl
theorem fdiv_nat (a b : Nat) : (a : Int).fdiv (b : Int) = ((a / b : Nat) : Int) := by
  rw [Int.fdiv_eq_ediv_of_nonneg _ (by omega)]
  rfl
theorem dlx {s c j : Nat} {r : List Nat} (h : j < 2) : ixN (DL s c r).length (j : Int) = some j := ix_at (by
  show j < (List.map _ r).length + 1 + 1
  omega)
theorem dllen {s c : Nat} {r : List Nat} : (DL s c r).length = r.length + 2 := by
  show (List.map _ r).length + 1 + 1 = _
  rw [List.length_map]
/-- the built-ins that no name of the program hides -/
structure Blt (mg : Str → Option Value) : Prop where
  len : mg "len" = none
  range : mg "range" = none
  isi : mg "isinstance" = none
  int : mg "int" = none
  bool : mg "bool" = none
  str : mg "str" = none
  tuple : mg "tuple" = none
  list : mg "list" = none
  all : mg "all" = none
  abs : mg "abs" = none
  enum : mg "enumerate" = none
/-- a def of the top that keeps its promise -/
def Df (P : Program) (w : World) (K : PySem.W.Frag) (mg : Str → Option Value) (base : Heap) (x : Str) (k : Nat) (ps : List Str) (sp : Sp) : Prop :=
  ∃ (f : Addr) (fd : FuncData), mg x = some (.ref f) ∧ PySem.W.keepIn K (.ref f) = true ∧ Binds K fd ps [] ∧ FnOk P w K mg base CX0 k f fd ps sp
/-- a list of numbers -/
def nints (l : List Nat) : List V := l.map fun (n : Nat) => V.int (n : Int)
/-- filtering a range step by step -/
theorem filter_range_succ' {n : Nat} {f : Nat → Bool} : (List.range (n + 1)).filter f = (List.range n).filter f ++ (if f n = true then [n] else []) := by
  rw [List.range_succ, List.filter_append]
  congr 1
  by_cases c : f n = true
  · rw [if_pos c, List.filter_cons_of_pos c]
    rfl
  · rw [if_neg c, List.filter_cons_of_neg c]
    rfl
abbrev s_l_below : Stmt := top 61
abbrev N_l_below : List Str := ["_law_d", "_law_limit", "_law_result"]
abbrev P_l_below : List Str := ["_law_d", "_law_limit"]
theorem sc_l_below : FnScope N_l_below P_l_below (defScope s_l_below) := ⟨rfl, rfl, rfl, by decide +kernel, rfl, by decide +kernel, by decide +kernel⟩
/-! ### the next number -/
def spBelow : Sp := fun vs H Q _ => ∃ (d : Addr) (n : Nat), vs = [.ref d, .int n] ∧ DAt H d ∧ 0 < n ∧ n < 1152921504606846976 ∧
  ∀ H' (r : Nat), r < n → But d H H' → DAt H' d → Q (.int r) H'
section
variable {P : Program} {w : World} {K : PySem.W.Frag} {mg : Str → Option Value} {base : Heap}
theorem ok_below {f : Addr} {fd : FuncData} (F : Fun K "_law_below" "_law_below" s_l_below f fd) (ml : mg "len" = none) : FnOk P w K mg base CX0 2 f fd P_l_below spBelow := by
  refine F.ok sc_l_below (fun vs H Q E h => ?_) (fun cdv A outer s H vs Q E hr h => ?_)
  · obtain ⟨d, n, rfl, _⟩ := h
    rfl
  · obtain ⟨d, n, rfl, ⟨s0, c, r, hs, hl, hd⟩, n0, n1, q⟩ := h
    refine ⟨_, C8.pss_cut (ps_if (PW.pt (pw_and (pt_cmpR op_eq (pe_ix ix_list (pv 0) pe_int (fun _ _ => rfl)) pe_int (nomark _)) (pw_and1 (pt_cmpR op_gt (pe_callB call_len_seq (by rfl) ml PySem.boot_len (pa_cons (pv 0) pa_nil)) pe_int (nomark _)))))
        (pss_one (ps_asg (pe_bm PySem.F.plainAttrs_list PySem.F.slot_list_pop PySem.F.type_list_pop mt_popAt (pv 0) (pa_cons pe_int pa_nil)) (pg_sub (pv 0) pe_int set_list))) pss_nil)
      (pss_cons (ps_if (pt_cmpR op_gt (pe_ix ix_list (pv 0) pe_int (fun _ _ => rfl)) pe_int (nomark _))
        (pss_cons (ps_set (i := 2) sc_l_below.nd rfl (.inl rfl) (pe_op op_modN (pe_ix ix_list (pv 0) pe_int (fun _ _ => rfl)) (pv 1)))
          (pss_cons (ps_asg (pe_op op_fdivW (pe_ix ix_list (pv 0) pe_int (fun _ _ => rfl)) (pv 1)) (pg_sub (pv 0) pe_int set_list)) (pss_one (ps_ret (pv 2))))) pss_nil)
      (pss_cons (ps_asg (pe_op op_modN (pe_op op_add (pe_op op_mul (pe_ix ix_list (pv 0) pe_int (fun _ _ => rfl)) pe_int) pe_int) pe_int) (pg_sub (pv 0) pe_int set_list))
        (pss_one (ps_ret (pe_op op_modN (pe_op op_fdivN (pe_ix ix_list (pv 0) pe_int (fun _ _ => rfl)) pe_int) (pv 1)))))), ?_⟩
    -- if d[1] == 0 and len(d) > 2: d[1] = d.pop(2)
    have rest : ∀ (s1 c1 : Nat) (r1 : List Nat) (H1 : Hp), s1 < 2147483647 → r1.length ≤ 63 → But d H H1 → H1 d = some (.lst (DL s1 c1 r1)) →
        (fun σ' H' => σ' = [some (V.ref d), some (V.int n), none] ∧ But d H H' ∧ DAt H' d : L2.St → Hp → Prop) [some (V.ref d), some (V.int n), none] H1 := fun s1 c1 r1 H1 a1 a2 a3 a4 => ⟨rfl, a3, s1, c1, r1, a1, a2, a4⟩
    refine ⟨fun σ' H' => σ' = [some (V.ref d), some (V.int n), none] ∧ But d H H' ∧ DAt H' d, ⟨_, rfl, d, _, 1, _, rfl, rfl, SqL.of hd, dl1, rfl, _, rfl, ?_⟩, ?_⟩
    · refine ite2 (fun e => ?_) (fun _ => iteF (rest s0 c r H hs hl .refl hd))
      refine ⟨_, rfl, d, _, rfl, .inl (SqL.of hd), _, _, rfl, rfl, _, rfl, ?_⟩
      refine ite2 (fun e2 => ?_) (fun _ => rest s0 c r H hs hl .refl hd)
      have e3 : 2 < ((DL s0 c r).length : Int) := of_decide_eq_true e2
      rw [dllen] at e3
      cases r with
      | nil => exact absurd e3 (by decide)
      | cons m r2 =>
        have hl2 : r2.length + 1 ≤ 63 := hl
        refine ⟨_, rfl, .inl ⟨rfl, _, SqL.of hd⟩, d, _, 2, 2, .int m, rfl, rfl, hd, by decide, by decide, ?_, rfl, ?_⟩
        · exact seqIx (n := (DL s0 c (m :: r2)).length) (j := 2) (by rw [dllen, List.length_cons]; omega)
        · refine ⟨_, rfl, d, _, 1, 1, rfl, rfl, upd_same, ?_, ?_⟩
          · exact dlx (s := s0) (c := c) (r := r2) (j := 1) (by decide)
          · refine rest s0 m r2 _ hs (by omega) (fun b o nb e => ?_) upd_same
            rw [upd_ne nb, upd_ne nb]
            exact e
    · rintro σ' H1 ⟨rfl, b1, s1, c1, r1, hs1, hl1, hd1⟩
      -- if d[1] > 0
      refine ⟨_, rfl, d, _, 1, _, rfl, rfl, SqL.of hd1, dl1, _, _, rfl, rfl, _, rfl, ite2 (fun e => ?_) (fun _ => ?_)⟩
      · refine ⟨_, rfl, d, _, 1, _, rfl, rfl, SqL.of hd1, dl1, _, rfl, _, _, rfl, rfl, by omega, ?_⟩
        refine ⟨_, rfl, d, _, 1, _, rfl, rfl, SqL.of hd1, dl1, _, rfl, _, _, rfl, rfl, wide_div (b := 60) (by omega) (by show n < 2 ^ 60; exact n1) (by decide) (by decide), ?_⟩
        refine ⟨_, rfl, d, _, 1, 1, rfl, rfl, hd1, dlx (j := 1) (by decide), ?_⟩
        refine ⟨_, rfl, ?_⟩
        show Q (V.int ((c1 : Int).fmod (n : Int))) (L2.upd H1 d (.lst (DL s1 c1 r1 |>.set 1 (V.int ((c1 / n : Nat) : Int)))))
        rw [fmod_nat]
        exact q _ _ (Nat.mod_lt _ n0) (b1.trans .upd) ⟨s1, c1 / n, r1, hs1, hl1, upd_same⟩
      · refine ⟨_, rfl, d, _, 0, _, rfl, rfl, SqL.of hd1, dl0, _, _, rfl, rfl, .inl ⟨by omega, by omega⟩, _, _, rfl, rfl, _, _, rfl, rfl, (by show (2147483647 : Int) ≠ 0; decide), ?_⟩
        refine ⟨_, rfl, d, _, 0, 0, rfl, rfl, hd1, dlx (j := 0) (by decide), ?_⟩
        have e5 : ((s1 : Int) * 48271 + 11).fmod 2147483647 = (((s1 * 48271 + 11) % 2147483647 : Nat) : Int) := fmod_nat (s1 * 48271 + 11) 2147483647
        have e6 : ((DL s1 c1 r1).set 0 (V.int (((s1 : Int) * 48271 + 11).fmod 2147483647))) = DL ((s1 * 48271 + 11) % 2147483647) c1 r1 := by
          rw [e5]
          rfl
        have hd2 : (L2.upd H1 d (.lst ((DL s1 c1 r1).set 0 (V.int (((s1 : Int) * 48271 + 11).fmod 2147483647))))) d = some (.lst (DL ((s1 * 48271 + 11) % 2147483647) c1 r1)) := by
          rw [upd_same, e6]
        refine ⟨_, rfl, d, _, 0, _, rfl, rfl, SqL.of hd2, dl0, _, _, rfl, rfl, ⟨by decide, by decide⟩, _, rfl, _, _, rfl, rfl, by omega, ?_⟩
        show Q (V.int (Int.fmod (Int.fdiv (((s1 * 48271 + 11) % 2147483647 : Nat) : Int) ((64 : Nat) : Int)) (n : Int))) _
        rw [fdiv_nat, fmod_nat]
        exact q _ _ (Nat.mod_lt _ n0) (b1.trans .upd) ⟨_, c1, r1, Nat.mod_lt _ (by decide), hl1, hd2⟩
end
abbrev s_l_random : Stmt := top 59
abbrev N_l_random : List Str := ["_law_script", "_law_salt", "_law_seed", "_law_cell"]
abbrev P_l_random : List Str := ["_law_script", "_law_salt"]
theorem sc_l_random : FnScope N_l_random P_l_random (defScope s_l_random) := ⟨rfl, rfl, rfl, by decide +kernel, rfl, by decide +kernel, by decide +kernel⟩
/-! ### the source of numbers -/
def spRandom (K : PySem.W.Frag) : Sp := fun vs H Q _ => ∃ (a : Addr) (ns : List Int) (salt : Nat), vs = [.ref a, .int salt] ∧ SqL K H a (ns.map V.int) ∧ ns.length ≤ 63 ∧ salt < 2147483647 ∧
  ∀ H' d, Same H H' → H d = none → DAt H' d → Q (.ref d) H'
section
variable {P : Program} {w : World} {K : PySem.W.Frag} {mg : Str → Option Value} {base : Heap}
theorem ok_random {f : Addr} {fd : FuncData} (F : Fun K "_law_random" "_law_random" s_l_random f fd) (B : Blt mg) : FnOk P w K mg base CX0 2 f fd P_l_random (spRandom K) := by
  refine F.ok sc_l_random (fun vs H Q E h => ?_) (fun cdv A outer s H vs Q E hr h => ?_)
  · obtain ⟨a, ns, salt, rfl, _⟩ := h
    rfl
  · obtain ⟨a, ns, salt, rfl, hS, hlen, hsalt, q⟩ := h
    refine ⟨_, pss_cons (ps_set (i := 2) sc_l_random.nd rfl (.inl rfl) (pv 1))
      (pss_cons (ps_for PassesOwn.never rfl (pi_list (pv 0)) (pg_name (i := 3) sc_l_random.nd rfl (.inl rfl))
        (pss_one (ps_set (i := 2) sc_l_random.nd rfl (.inl rfl) (pe_op op_modN (pe_op op_add (pe_op op_mul (pv 2) pe_int) (pe_callB call_abs (by rfl) B.abs PyProof.Rows.boot_abs (pa_cons (pv 3) pa_nil))) pe_int))))
      (pss_one (ps_ret (pe_op op_cat (pe_lst (pa_cons (pv 2) (pa_cons pe_int pa_nil)))
        (pe_lc (own := [("_law_cell", 3)]) (g := gName 3) (by rfl) sc_l_random.nd (pi_list (pv 0)) (blkOk_by (N := N_l_random) (sc := defScope s_l_random) (by decide +kernel))
          (fun _ _ _ _ _ => pg_name (i := 3) sc_l_random.nd rfl (.inl rfl)) (fun _ _ _ _ _ => pts_one (pt_cmpR op_ge (pv 3) (pe_op op_pow pe_int pe_int) (nomark _))) (fun _ _ _ _ _ => pv 3)))))), ?_⟩
    refine ⟨_, rfl, .ref a, rfl, a, rfl, ⟨_, hS⟩, for_list (K := K) (a := a) (xs := ns.map V.int) (fun i σ H' => ∃ (z : Nat) (v : Option V), z < 2147483647 ∧ σ = [some (.ref a), some (.int salt), some (.int z), v] ∧ H' = H)
      ⟨salt, none, hsalt, rfl, rfl⟩ (fun i σ H' _ ⟨_, _, _, _, e⟩ => by rw [e]; exact hS) ?_ ?_⟩
    · rintro i y σ H' hi ⟨z, v, hz, rfl, rfl⟩
      obtain ⟨u, rfl⟩ : ∃ u, y = V.int u := by
        rw [List.getElem?_map] at hi
        cases e : ns[i]? with
        | none => rw [e] at hi; cases hi
        | some u => rw [e] at hi; exact ⟨u, (Option.some.inj hi).symm⟩
      refine ⟨_, rfl, _, _, rfl, rfl, .inl ⟨by omega, by omega⟩, _, rfl, _, rfl, _, _, rfl, rfl, _, _, rfl, rfl, (by show (2147483647 : Int) ≠ 0; decide), ?_⟩
      have e1 : (z : Int) * 31 + (if u < 0 then -u else u) = ((z * 31 + u.natAbs : Nat) : Int) := by
        split <;> omega
      refine ⟨(z * 31 + u.natAbs) % 2147483647, some (.int u), Nat.mod_lt _ (by decide), ?_, rfl⟩
      show [some (V.ref a), some (V.int salt), some (V.int (Int.fmod ((z : Int) * 31 + (if u < 0 then -u else u)) 2147483647)), some (V.int u)] = _
      rw [e1, show ((2147483647 : Int)) = ((2147483647 : Nat) : Int) from rfl, fmod_nat]
    · rintro σ H' ⟨z, v, hz, rfl, rfl⟩
      refine ⟨_, rfl, (by show 2 ≤ sizeLine; decide), fun l nl => ?_⟩
      have sl := same_upd (o := HO.lst [V.int z, V.int 0]) nl
      refine ⟨.ref a, rfl, a, rfl, ⟨_, sl.seq hS⟩, fun D nD => ?_⟩
      have nDl : l ≠ D := fun e => by
        rw [← e, upd_same] at nD
        cases nD
      refine lc_list (K := K) (a := a) (xs := ns.map V.int) (fun i H1 => ∃ r : List Nat, r.length ≤ i ∧ H1 = L2.upd (L2.upd H' l (.lst [V.int z, V.int 0])) D (.lst (r.map fun (n : Nat) => V.int (n : Int))))
        ⟨[], Nat.le_refl _, rfl⟩ (fun i H1 _ ⟨r, _, e⟩ => by rw [e]; exact (same_upd nD).seq (sl.seq hS)) ?_ ?_
      · rintro i x H1 hi ⟨r, hr1, rfl⟩
        obtain ⟨u, rfl⟩ : ∃ u, x = V.int u := by
          rw [List.getElem?_map] at hi
          cases e : ns[i]? with
          | none => rw [e] at hi; cases hi
          | some u => rw [e] at hi; exact ⟨u, (Option.some.inj hi).symm⟩
        have hi63 : i < ns.length := by
          have q := (List.getElem?_eq_some_iff.mp hi).1
          rw [List.length_map] at q
          exact q
        refine ⟨rfl, _, rfl, _, _, rfl, rfl, ⟨by decide, by decide, by decide⟩, _, _, rfl, rfl, _, rfl, ite2 (fun e => ?_) (fun _ => ⟨r, by omega, rfl⟩)⟩
        have e1 : (10 : Int) ^ (18 : Int).toNat ≤ u := of_decide_eq_true e
        have e2 : (0 : Int) ≤ u := Int.le_trans (by decide) e1
        refine ⟨_, rfl, _, upd_same, ?_, r ++ [u.toNat], ?_, ?_⟩
        · rw [List.length_map]
          exact small1000 (by omega)
        · rw [List.length_append, List.length_singleton]
          omega
        · rw [upd_upd, List.map_append]
          show L2.upd _ D (.lst (_ ++ [V.int u])) = L2.upd _ D (.lst (_ ++ [V.int (u.toNat : Int)]))
          rw [Int.toNat_of_nonneg e2]
      · rintro H1 ⟨r, hr1, rfl⟩
        rw [List.length_map] at hr1
        refine ⟨l, D, _, _, rfl, rfl, (upd_ne nDl).trans upd_same, upd_same, ?_, fun d nd => ?_⟩
        · rw [List.length_map]
          exact Nat.le_of_lt (small1000 (by show 2 + r.length ≤ 1000; omega))
        · refine q _ d (sl.trans ((same_upd nD).trans (same_upd nd))) (sl.free ((same_upd nD).free nd)) ⟨z, 0, r, hz, by omega, upd_same⟩
end
abbrev s_l_order : Stmt := top 62
abbrev N_l_order : List Str := ["_law_d", "_law_period", "_law_houses", "_law_source", "_law_delay", "_law_target"]
abbrev P_l_order : List Str := ["_law_d", "_law_period", "_law_houses"]
theorem sc_l_order : FnScope N_l_order P_l_order (defScope s_l_order) := ⟨rfl, rfl, rfl, by decide +kernel, rfl, by decide +kernel, by decide +kernel⟩
/-! ### an order made -/
def spOrder : Sp := fun vs H Q _ => ∃ (d : Addr) (p h : Nat), vs = [.ref d, .int p, .int h] ∧ DAt H d ∧ 0 < p ∧ p ≤ 30 ∧ 2 ≤ h ∧ h ≤ 10 ∧
  ∀ H' t o, OdOk p h o → But d H H' → DAt H' d → H t = none → H' t = some (.tup o.vs) → Q (.ref t) H'
section
variable {P : Program} {w : World} {K : PySem.W.Frag} {mg : Str → Option Value} {base : Heap}
theorem two_at {x y : V} {b : Nat} (hb : b < 2) : ∃ v, atI [x, y] (b : Int) = some v ∧ (v = x ∨ v = y) := by
  match b, hb with
  | 0, _ => exact ⟨x, atI_nat (j := 0) rfl, .inl rfl⟩
  | 1, _ => exact ⟨y, atI_nat (j := 1) rfl, .inr rfl⟩
theorem ok_order {f : Addr} {fd : FuncData} (F : Fun K "_law_order" "_law_order" s_l_order f fd) (DB : Df P w K mg base "_law_below" 2 P_l_below spBelow) : FnOk P w K mg base CX0 3 f fd P_l_order spOrder := by
  obtain ⟨fB, fdB, gB, kB, bB, GB⟩ := DB
  refine F.ok sc_l_order (fun vs H Q E h => ?_) (fun cdv A outer s H vs Q E hr h => ?_)
  · obtain ⟨d, p, h, rfl, _⟩ := h
    rfl
  · obtain ⟨d, p, h, rfl, hD, p0, p30, h2, h10, q⟩ := h
    refine ⟨_, pss_cons (ps_par (by rfl) sc_l_order.nd (i := 3) (j := 4) rfl rfl (by decide) rfl rfl
        (pa_cons (pe_call GB hr (by rfl) gB kB bB .nil pass0 (pa_cons (pv 0) (pa_cons (pv 2) pa_nil)))
          (pa_cons (pe_op op_add pe_int (pe_call GB hr (by rfl) gB kB bB .nil pass0 (pa_cons (pv 0) (pa_cons
            (pe_ix ix_list (pe_lst (pa_cons pe_int (pa_cons pe_int pa_nil))) (pe_call GB hr (by rfl) gB kB bB .nil pass0 (pa_cons (pv 0) (pa_cons pe_int pa_nil))) (fun _ _ => rfl)) pa_nil)))) pa_nil)) (by rfl))
      (pss_cons (ps_set (i := 5) sc_l_order.nd rfl (.inl rfl) (pe_op op_modN (pe_op op_add (pe_op op_add (pv 3) pe_int) (pe_call GB hr (by rfl) gB kB bB .nil pass0 (pa_cons (pv 0) (pa_cons (pe_op op_sub (pv 2) pe_int) pa_nil)))) (pv 2)))
      (pss_one (ps_ret (pe_tup (pa_cons (pv 3) (pa_cons (pv 5) (pa_cons (pe_call GB hr (by rfl) gB kB bB .nil pass0 (pa_cons (pv 0) (pa_cons (pv 1) pa_nil)))
        (pa_cons (pe_op op_add pe_int (pe_call GB hr (by rfl) gB kB bB .nil pass0 (pa_cons (pv 0) (pa_cons (pv 1) pa_nil)))) (pa_cons (pv 4) pa_nil))))))))), ?_⟩
    refine ⟨_, rfl, _, rfl, d, h, rfl, hD, by omega, by omega, fun H1 src hsrc b1 D1 => ?_⟩
    refine ⟨_, rfl, (by show 2 ≤ sizeLine; decide), fun l nl => ?_⟩
    have D1' := D1.but (same_upd (o := HO.lst [V.int 3, V.int 9]) nl)
    have ndl : d ≠ l := ne_of_none D1.som.choose_spec nl
    refine ⟨_, rfl, d, 2, rfl, D1', by decide, by decide, fun H2 b hb b2 D2 => ?_⟩
    have hl2 : H2 l = some (.lst [V.int 3, V.int 9]) := b2 l _ ndl.symm upd_same
    obtain ⟨m, hm, hm39⟩ : ∃ m : Nat, atI [V.int 3, V.int 9] (b : Int) = some (V.int m) ∧ (m = 3 ∨ m = 9) := by
      obtain ⟨v, h1, h2⟩ := two_at (x := V.int 3) (y := V.int 9) hb
      rcases h2 with h2 | h2
      · exact ⟨3, by rw [h1, h2]; rfl, .inl rfl⟩
      · exact ⟨9, by rw [h1, h2]; rfl, .inr rfl⟩
    refine ⟨l, _, _, _, rfl, rfl, SqL.of hl2, hm, ?_⟩
    refine ⟨d, m, rfl, D2, by omega, by omega, fun H3 dl hdl b3 D3 => ?_⟩
    refine ⟨_, _, rfl, rfl, _, _, rfl, ?_⟩
    refine ⟨_, rfl, _, _, rfl, rfl, _, rfl, _, rfl, _, _, rfl, rfl, d, h - 1, ?_, D3, by omega, by omega, fun H4 tt htt b4 D4 => ?_⟩
    · show [V.ref d, V.int ((h : Int) - 1)] = _
      rw [show (h : Int) - 1 = ((h - 1 : Nat) : Int) by omega]
    refine ⟨_, _, rfl, rfl, _, rfl, _, _, rfl, rfl, by omega, ?_⟩
    refine ⟨_, rfl, _, rfl, _, rfl, _, rfl, d, p, rfl, D4, by omega, by omega, fun H5 ff hff b5 D5 => ?_⟩
    refine ⟨_, rfl, _, rfl, d, p, rfl, D5, by omega, by omega, fun H6 nn hnn b6 D6 => ?_⟩
    refine ⟨_, _, rfl, rfl, _, rfl, (by show 5 ≤ sizeLine; decide), fun t nt => ?_⟩
    have e1 : ((src : Int) + 1 + (tt : Int)).fmod (h : Int) = (((src + 1 + tt) % h : Nat) : Int) := fmod_nat (src + 1 + tt) h
    have hb : But d H H6 := b1.trans ((But.new nl).trans (b2.trans (b3.trans (b4.trans (b5.trans b6)))))
    have hd6 := D6.som.choose_spec
    have ok : OdOk p h ⟨src, (src + 1 + tt) % h, ff, 1 + nn, 1 + dl⟩ := by
      refine ⟨hsrc, Nat.mod_lt _ (by omega), ?_, hff, by show 1 ≤ 1 + nn; omega, by show 1 + nn ≤ p; omega, by show 1 ≤ 1 + dl; omega, by show 1 + dl ≤ 9; omega⟩
      show src ≠ (src + 1 + tt) % h
      by_cases z : src + 1 + tt < h
      · rw [Nat.mod_eq_of_lt z]
        omega
      · rw [Nat.mod_eq_sub_mod (by omega), Nat.mod_eq_of_lt (by omega)]
        omega
    refine q _ t ⟨src, (src + 1 + tt) % h, ff, 1 + nn, 1 + dl⟩ ok (hb.trans (.new nt)) (D6.but (same_upd nt)) (hb.free hd6 nt) ?_
    rw [upd_same]
    show some (HO.tup [V.int src, V.int (((src : Int) + 1 + (tt : Int)).fmod (h : Int)), V.int ff, V.int (1 + (nn : Int)), V.int (1 + (dl : Int))]) = some (HO.tup [V.int src, V.int (((src + 1 + tt) % h : Nat) : Int), V.int ff, V.int ((1 + nn : Nat) : Int), V.int ((1 + dl : Nat) : Int)])
    rw [e1, Int.natCast_add 1 nn, Int.natCast_add 1 dl]
    rfl
end
/-! ### the parts of a net -/
def OrdAt (H : Hp) (v : V) (o : Od) : Prop := ∃ t, v = .ref t ∧ H t = some (.tup o.vs)
def TupKeep (H H' : Hp) : Prop := ∀ b xs, H b = some (.tup xs) → H' b = some (.tup xs)
theorem tk_of {H H' : Hp} (s : Same H H') : TupKeep H H' := fun b _ e => s b _ e
theorem But.tk {d : Addr} {H H' : Hp} (s : But d H H') (hd : DAt H d) : TupKeep H H' := fun b xs e => by
  obtain ⟨_, _, _, _, _, h3⟩ := hd
  exact s b _ (ne_of e h3 (by intro q; cases q)) e
theorem TupKeep.lst {H : Hp} {a : Addr} {xs : List V} {o : HO} (h : H a = some (.lst xs)) : TupKeep H (L2.upd H a o) := fun b ys e => by
  rw [upd_ne (ne_of e h (by intro q; cases q))]
  exact e
theorem But.updN {d p : Addr} {H H' : Hp} {o : HO} (s : But d H H') (h : H p = none) : But d H (L2.upd H' p o) := fun b u n e => by
  rw [upd_ne (ne_of_none e h)]
  exact s b u n e
theorem DAt.updN {d p : Addr} {H : Hp} {o : HO} (h : DAt H d) (n : d ≠ p) : DAt (L2.upd H p o) d := by
  obtain ⟨a, b, c, h1, h2, h3⟩ := h
  exact ⟨a, b, c, h1, h2, by rw [upd_ne n]; exact h3⟩
theorem TupKeep.trans {H H1 H2 : Hp} (a : TupKeep H H1) (b : TupKeep H1 H2) : TupKeep H H2 := fun c o e => b c o (a c o e)
theorem OrdAt.keep {H H' : Hp} {v : V} {o : Od} (k : TupKeep H H') (h : OrdAt H v o) : OrdAt H' v o := by
  obtain ⟨t, e, ht⟩ := h
  exact ⟨t, e, k _ _ ht⟩
theorem OrdsAt.keep {H H' : Hp} {ts : List V} {os : List Od} (k : TupKeep H H') (h : Paired (OrdAt H) ts os) : Paired (OrdAt H') ts os :=
  Paired.mapP h fun _ _ q => q.keep k
theorem Paired.snoc {α β : Type} {F : α → β → Prop} {x : α} {y : β} : ∀ {l1 : List α} {l2 : List β}, Paired F l1 l2 → F x y → Paired F (l1 ++ [x]) (l2 ++ [y])
  | _, _, .nil, q => .cons q .nil
  | _, _, .cons r t, q => .cons r (Paired.snoc t q)
theorem Paired.get? {α β : Type} {F : α → β → Prop} : ∀ {l1 : List α} {l2 : List β} {i : Nat} {y : β}, Paired F l1 l2 → l2[i]? = some y → ∃ x, l1[i]? = some x ∧ F x y
  | _, _, _, _, .nil, e => by simp at e
  | _, _, 0, _, .cons r _, e => by
    simp at e
    subst e
    exact ⟨_, rfl, r⟩
  | _, _, i + 1, y, .cons _ t, e => by
    obtain ⟨u, h1, h2⟩ := Paired.get? (i := i) (y := y) t (by simpa using e)
    exact ⟨u, by simpa using h1, h2⟩
structure NetOk (p h : Nat) (os : List Od) : Prop where
  p1 : 1 ≤ p
  p30 : p ≤ 30
  h1 : 1 ≤ h
  h10 : h ≤ 10
  len : os.length ≤ 20
  ok : ∀ o ∈ os, OdOk p h o
/-- the orders' tuple -/
def OrdsTup (H : Hp) (t : Addr) (os : List Od) : Prop := ∃ ts, H t = some (.tup ts) ∧ Paired (OrdAt H) ts os
theorem OrdsTup.keep {H H' : Hp} {t : Addr} {os : List Od} (k : TupKeep H H') (h : OrdsTup H t os) : OrdsTup H' t os := by
  obtain ⟨ts, h1, h2⟩ := h
  exact ⟨ts, k _ _ h1, OrdsAt.keep k h2⟩
def PartsAt (H : Hp) (a : Addr) (p h : Nat) (os : List Od) : Prop := ∃ t, H a = some (.tup [.int p, .int h, .ref t]) ∧ OrdsTup H t os
theorem PartsAt.keep {H H' : Hp} {a : Addr} {p h : Nat} {os : List Od} (k : TupKeep H H') (q : PartsAt H a p h os) : PartsAt H' a p h os := by
  obtain ⟨t, h1, h2⟩ := q
  exact ⟨t, k _ _ h1, h2.keep k⟩
abbrev s_l_small : Stmt := top 63
abbrev N_l_small : List Str := ["_law_d", "_law_period", "_law_houses", "_law_k"]
abbrev P_l_small : List Str := ["_law_d"]
theorem sc_l_small : FnScope N_l_small P_l_small (defScope s_l_small) := ⟨rfl, rfl, rfl, by decide +kernel, rfl, by decide +kernel, by decide +kernel⟩
/-! ### the parts of a small net -/
def spSmall : Sp := fun vs H Q _ => ∃ (d : Addr), vs = [.ref d] ∧ DAt H d ∧
  ∀ H' a p h os, NetOk p h os → (p ≤ 5 ∧ 2 ≤ h ∧ h ≤ 4 ∧ 1 ≤ os.length ∧ os.length ≤ 6) → But d H H' → DAt H' d → H a = none → PartsAt H' a p h os → Q (.ref a) H'
section
variable {P : Program} {w : World} {K : PySem.W.Frag} {mg : Str → Option Value} {base : Heap}
theorem ok_small {f : Addr} {fd : FuncData} (F : Fun K "_law_small" "_law_small" s_l_small f fd) (B : Blt mg) (DB : Df P w K mg base "_law_below" 2 P_l_below spBelow) (DO : Df P w K mg base "_law_order" 3 P_l_order spOrder) : FnOk P w K mg base CX0 4 f fd P_l_small spSmall := by
  obtain ⟨fB, fdB, gB, kB, bB, GB⟩ := DB
  obtain ⟨fO, fdO, gO, kO, bO, GO⟩ := DO
  refine F.ok sc_l_small (fun vs H Q E h => ?_) (fun cdv A outer s H vs Q E hr h => ?_)
  · obtain ⟨d, rfl, _⟩ := h
    rfl
  · obtain ⟨d, rfl, hD, q⟩ := h
    have hr1 : Room 2 _ := hr.mono (by decide)
    refine ⟨_, pss_cons (ps_asg (pe_tup (pa_cons (pe_op op_add pe_int (pe_call GB hr1 (by rfl) gB kB bB .nil pass0 (pa_cons (pv 0) (pa_cons pe_int pa_nil)))) (pa_cons (pe_op op_add pe_int (pe_call GB hr1 (by rfl) gB kB bB .nil pass0 (pa_cons (pv 0) (pa_cons pe_int pa_nil)))) pa_nil)))
        (pg_tup (by rfl) (pgs_cons (pg_name (i := 1) sc_l_small.nd rfl (.inr rfl)) (pgs_cons (pg_name (i := 2) sc_l_small.nd rfl (.inr rfl)) pgs_nil))))
      (pss_one (ps_ret (pe_tup (pa_cons (pv 1) (pa_cons (pv 2) (pa_cons (pe_callTy call_tuple_of (by rfl) B.tuple (by decide +kernel) (pa_cons
        (pe_lc (own := [("_law_k", 3)]) (g := gName 3) (tt := tYes) (by rfl) sc_l_small.nd (pi_range1 rfl B.range (pa_cons (pe_op op_add pe_int (pe_call GB hr1 (by rfl) gB kB bB .nil pass0 (pa_cons (pv 0) (pa_cons pe_int pa_nil)))) pa_nil))
          (blkOk_by (N := N_l_small) (sc := defScope s_l_small) (by decide +kernel)) (fun _ _ _ _ _ => pg_name (i := 3) sc_l_small.nd rfl (.inl rfl)) (fun _ _ _ _ _ => pts_nil)
          (fun _ _ _ _ _ => pe_call GO hr (by rfl) gO kO bO .nil pass0 (pa_cons (pv 0) (pa_cons (pv 1) (pa_cons (pv 2) pa_nil))))) pa_nil)) pa_nil)))))), ?_⟩
    refine ⟨_, rfl, d, 5, rfl, hD, by decide, by decide, fun H1 p0 hp0 b1 D1 => ?_⟩
    refine ⟨_, _, rfl, rfl, _, rfl, d, 3, rfl, D1, by decide, by decide, fun H2 h0 hh0 b2 D2 => ?_⟩
    refine ⟨_, _, rfl, rfl, (by show 2 ≤ sizeLine; decide), fun y ny => ?_⟩
    have s3 := same_upd (o := HO.tup [V.int (1 + (p0 : Int)), V.int (2 + (h0 : Int))]) ny
    refine ⟨y, _, rfl, SqT.of upd_same, rfl, _, _, rfl, _, _, rfl, rfl, ?_⟩
    have D3 := D2.but s3
    have B3 : But d H (upd H2 y (.tup [V.int (1 + (p0 : Int)), V.int (2 + (h0 : Int))])) := b1.trans (b2.trans (.of s3))
    generalize (upd H2 y (.tup [V.int (1 + (p0 : Int)), V.int (2 + (h0 : Int))])) = H3 at D3 B3
    have ep : V.int (1 + (p0 : Int)) = .int ((1 + p0 : Nat) : Int) := by rw [Int.natCast_add]; rfl
    have eh : V.int (2 + (h0 : Int)) = .int ((2 + h0 : Nat) : Int) := by rw [Int.natCast_add]; rfl
    simp only [ep, eh]
    generalize hp : 1 + p0 = p
    generalize hh : 2 + h0 = h
    refine ⟨_, rfl, _, rfl, _, rfl, d, 6, rfl, D3, by decide, by decide, fun H4 n hn b4 D4 => ⟨_, _, rfl, rfl, _, rfl, by omega, by omega, fun D nD => ?_⟩⟩
    have D4' := D4.but (same_upd (o := HO.lst []) nD)
    have ndD : d ≠ D := ne_of_none D4.som.choose_spec nD
    have B4 := B3.trans b4
    refine lc_range (lo := 0) (n := (1 + (n : Int)).toNat) (fun i H' => But d H H' ∧ DAt H' d ∧ ∃ (ts : List V) (os : List Od), H' D = some (.lst ts) ∧ ts.length = i ∧ Paired (OrdAt H') ts os ∧ ∀ o ∈ os, OdOk p h o)
      ⟨B4.trans (.new nD), D4', [], [], upd_same, rfl, .nil, fun _ z => by cases z⟩ ?_ ?_
    · rintro i H' hi ⟨bb, DD, ts, os, hDD, hlen, hP, hOk⟩
      refine ⟨rfl, ?_⟩
      refine ⟨_, rfl, _, rfl, _, rfl, d, p, h, rfl, DD, by omega, by omega, by omega, by omega, fun H2 t o hok b2 D2 nt ht => ?_⟩
      have hD2 := b2 D _ ndD.symm hDD
      have tk := b2.tk DD
      have ntD : t ≠ D := (ne_of_none hDD nt).symm
      refine ⟨ts, hD2, small1000 (by omega), (bb.trans b2).updN (B4.free D4.som.choose_spec nD), D2.updN ndD, ts ++ [.ref t], os ++ [o], upd_same, by rw [List.length_append, hlen]; rfl, ?_, ?_⟩
      · refine Paired.snoc (OrdsAt.keep (tk.trans (TupKeep.lst hD2)) hP) ⟨t, rfl, ?_⟩
        rw [upd_ne ntD]
        exact ht
      · intro o' ho'
        rcases List.mem_append.mp ho' with z | z
        · exact hOk o' z
        · rw [List.mem_singleton.mp z]
          exact hok
    · rintro H' ⟨bb, DD, ts, os, hDD, hlen, hP, hOk⟩
      have ho := hP.length
      refine ⟨D, ts, rfl, .inl ⟨SqL.of hDD, fun t nt => ?_⟩⟩
      refine ⟨(by show 3 ≤ sizeLine; decide), fun a na => ?_⟩
      have s1 := same_upd (o := HO.tup ts) nt
      have s2 := same_upd (o := HO.tup [V.int p, V.int h, V.ref t]) na
      refine q _ a p h os ⟨by omega, by omega, by omega, by omega, by omega, hOk⟩ ⟨by omega, by omega, by omega, by omega, by omega⟩ (bb.trans ((But.of s1).trans (.of s2))) (DD.but (s1.trans s2)) (bb.free DD.som.choose_spec (s1.free na)) ⟨t, upd_same, ts, ?_, OrdsAt.keep (tk_of (s1.trans s2)) hP⟩
      rw [upd_ne (ne_of_none (upd_same (H := H')) na), upd_same]
end
abbrev s_is_integer : Stmt := top 11
abbrev N_is_integer : List Str := ["value"]
abbrev P_is_integer : List Str := ["value"]
theorem sc_is_integer : FnScope N_is_integer P_is_integer (defScope s_is_integer) := ⟨rfl, rfl, rfl, by decide +kernel, rfl, by decide +kernel, by decide +kernel⟩
abbrev s_is_within : Stmt := top 12
abbrev N_is_within : List Str := ["value", "low", "high"]
abbrev P_is_within : List Str := ["value", "low", "high"]
theorem sc_is_within : FnScope N_is_within P_is_within (defScope s_is_within) := ⟨rfl, rfl, rfl, by decide +kernel, rfl, by decide +kernel, by decide +kernel⟩
abbrev s_is_order : Stmt := top 36
abbrev N_is_order : List Str := ["period", "houses", "order", "source", "target", "first", "days", "delay"]
abbrev P_is_order : List Str := ["period", "houses", "order"]
theorem sc_is_order : FnScope N_is_order P_is_order (defScope s_is_order) := ⟨rfl, rfl, rfl, by decide +kernel, rfl, by decide +kernel, by decide +kernel⟩
abbrev s_check_orders : Stmt := top 37
abbrev N_check_orders : List Str := ["period", "houses", "orders", "index", "order"]
abbrev P_check_orders : List Str := ["period", "houses", "orders"]
theorem sc_check_orders : FnScope N_check_orders P_check_orders (defScope s_check_orders) := ⟨rfl, rfl, rfl, by decide +kernel, rfl, by decide +kernel, by decide +kernel⟩
/-! ### is_within, is_order, check_orders -/
/-- a value that is no int (a bool, or a thing of another built-in type) -/
def NotInt (K : PySem.W.Frag) (H : Hp) (x : V) : Prop := (∃ b, x = .bl b) ∨ ∃ t, TyX K H x (.type t) ∧ kitB t "int" = some false
def Kn (K : PySem.W.Frag) (H : Hp) (x : V) : Prop := (∃ i, x = .int i) ∨ (NotInt K H x ∧ ∀ i, x ≠ .int i)
def withinB (x : V) (lo hi : Int) : Bool := match x with
  | .int v => decide (lo ≤ v) && decide (v ≤ hi)
  | _ => false
theorem Kn.int {K : PySem.W.Frag} {H : Hp} {i : Int} : Kn K H (.int i) := .inl ⟨i, rfl⟩
theorem withinB_no {x : V} {lo hi : Int} (h : ∀ i, x ≠ .int i) : withinB x lo hi = false := by
  unfold withinB
  split
  · rename_i v
    exact absurd rfl (h v)
  · rfl
def isIntB (x : V) : Bool := match x with
  | .int _ => true
  | _ => false
theorem isIntB_no {x : V} (h : ∀ i, x ≠ .int i) : isIntB x = false := by
  unfold isIntB
  split
  · rename_i v
    exact absurd rfl (h v)
  · rfl
def spIsInt (K : PySem.W.Frag) : Sp := fun vs H Q _ => ∃ (x : V), vs = [x] ∧ Kn K H x ∧ Q (.bl (isIntB x)) H
def spWithin (K : PySem.W.Frag) : Sp := fun vs H Q _ => ∃ (x : V) (lo hi : Int), vs = [x, .int lo, .int hi] ∧ Kn K H x ∧ Q (.bl (withinB x lo hi)) H
section
variable {P : Program} {w : World} {K : PySem.W.Frag} {mg : Str → Option Value} {base : Heap}
theorem ok_isint {f : Addr} {fd : FuncData} (F : Fun K "is_integer" "is_integer" s_is_integer f fd) (B : Blt mg) : FnOk P w K mg base CX0 1 f fd P_is_integer (spIsInt K) := by
  refine F.ok sc_is_integer (fun vs H Q E h => ?_) (fun cdv A outer s H vs Q E hr h => ?_)
  · obtain ⟨x, rfl, _⟩ := h
    rfl
  · obtain ⟨x, rfl, hk, q⟩ := h
    refine ⟨_, pss_one (ps_ret (pe_and (pe_callB call_isi (by rfl) B.isi PyProof.Rows.boot_isinstance (pa_cons (pv 0) (pa_cons (pe_bltn (v := .ty "int") (by rfl) B.int (by decide +kernel) rfl) pa_nil)))
      (pe_one (pe_not (pe_callB call_isi (by rfl) B.isi PyProof.Rows.boot_isinstance (pa_cons (pv 0) (pa_cons (pe_bltn (v := .ty "bool") (by rfl) B.bool (by decide +kernel) rfl) pa_nil))))))), ?_⟩
    rcases hk with ⟨v, rfl⟩ | ⟨⟨b, rfl⟩ | ⟨t, ty, kt⟩, hne⟩
    · refine ⟨_, rfl, _, _, _, _, true, rfl, .ty "int", .base (.int v), kit_ty (by decide +kernel), _, rfl, iteT ?_⟩
      exact ⟨_, rfl, _, _, _, _, false, rfl, .ty "bool", .base (.int v), kit_ty (by decide +kernel), _, rfl, q⟩
    · refine ⟨_, rfl, _, _, _, _, true, rfl, .ty "int", .base (.bl b), kit_ty (by decide +kernel), _, rfl, iteT ?_⟩
      exact ⟨_, rfl, _, _, _, _, true, rfl, .ty "bool", .base (.bl b), kit_ty (by decide +kernel), _, rfl, q⟩
    · rw [isIntB_no hne] at q
      exact ⟨_, rfl, _, _, _, _, false, rfl, .ty "int", ty, kit_ty kt, _, rfl, iteF q⟩
theorem ok_within {f : Addr} {fd : FuncData} (F : Fun K "is_within" "is_within" s_is_within f fd) (DI : Df P w K mg base "is_integer" 1 P_is_integer (spIsInt K)) : FnOk P w K mg base CX0 2 f fd P_is_within (spWithin K) := by
  obtain ⟨fI, fdI, gI, KI, bI, GI⟩ := DI
  refine F.ok sc_is_within (fun vs H Q E h => ?_) (fun cdv A outer s H vs Q E hr h => ?_)
  · obtain ⟨x, lo, hi, rfl, _⟩ := h
    rfl
  · obtain ⟨x, lo, hi, rfl, hk, q⟩ := h
    refine ⟨_, pss_one (ps_ret (pe_and (pe_call GI hr (by rfl) gI KI bI .nil pass0 (pa_cons (pv 0) pa_nil))
      (pe_one (pe_chain op_le op_le (pv 1) (pv 0) (pv 2))))), ?_⟩
    refine ⟨_, rfl, x, rfl, hk, ?_⟩
    cases x with
    | int v =>
      refine ⟨_, rfl, iteT ?_⟩
      refine ⟨_, rfl, _, rfl, _, _, rfl, rfl, _, rfl, ite2 (fun e => ?_) (fun e => ?_)⟩
      · refine ⟨_, rfl, _, _, rfl, rfl, ?_⟩
        have q2 : Q (.bl (decide (lo ≤ v) && decide (v ≤ hi))) H := q
        rw [e, Bool.true_and] at q2
        exact q2
      · have q2 : Q (.bl (decide (lo ≤ v) && decide (v ≤ hi))) H := q
        rw [Bool.eq_false_iff.mpr e, Bool.false_and] at q2
        exact q2
    | _ => exact ⟨_, rfl, iteF q⟩
end
/-- what is_order says of the values of a tuple -/
def orderB (p h : Int) : List V → Bool
  | [s, t, f, n, e] => withinB s 0 (h - 1) && (withinB t 0 (h - 1) && (!decide (s = t) && (withinB f 0 (p - 1) && (withinB n 1 p && withinB e 1 9))))
  | _ => false
theorem within_nat {v lo hi : Nat} (h1 : lo ≤ v) (h2 : v ≤ hi) : withinB (.int v) lo hi = true := by
  show (decide ((lo : Int) ≤ v) && decide ((v : Int) ≤ hi)) = true
  rw [decide_eq_true (by omega), decide_eq_true (by omega)]
  rfl
theorem orderB_ok {p h : Nat} {o : Od} (k : OdOk p h o) : orderB p h o.vs = true := by
  have a1 := k.s; have a2 := k.t; have a3 := k.st; have a4 := k.f; have a5 := k.n1; have a6 := k.n; have a7 := k.e1; have a8 := k.e
  show (withinB (.int o.s) 0 ((h : Int) - 1) && (withinB (.int o.t) 0 ((h : Int) - 1) && (!decide (V.int o.s = V.int o.t) && (withinB (.int o.f) 0 ((p : Int) - 1) && (withinB (.int o.n) 1 p && withinB (.int o.e) 1 9))))) = true
  have e1 : ((h : Int) - 1) = ((h - 1 : Nat) : Int) := by omega
  have e2 : ((p : Int) - 1) = ((p - 1 : Nat) : Int) := by omega
  rw [e1, e2]
  have b1 : withinB (.int o.s) 0 ((h - 1 : Nat) : Int) = true := within_nat (lo := 0) (by omega) (by omega)
  have b2 : withinB (.int o.t) 0 ((h - 1 : Nat) : Int) = true := within_nat (lo := 0) (by omega) (by omega)
  have b3 : withinB (.int o.f) 0 ((p - 1 : Nat) : Int) = true := within_nat (lo := 0) (by omega) (by omega)
  have b4 : withinB (.int o.n) 1 p = true := within_nat (lo := 1) (by omega) (by omega)
  have b5 : withinB (.int o.e) 1 9 = true := within_nat (lo := 1) (hi := 9) (by omega) (by omega)
  have b6 : decide (V.int (o.s : Int) = V.int o.t) = false := decide_eq_false fun z => a3 (by
    have z2 := V.int.inj z
    omega)
  rw [b1, b2, b3, b4, b5, b6]
  rfl
/-- what may be asked whether it is an order: a tuple of known values, or a thing that is no tuple -/
def OrderLike (K : PySem.W.Frag) (H : Hp) (v : V) (p h : Int) (b : Bool) : Prop :=
  (∃ a xs, v = .ref a ∧ H a = some (.tup xs) ∧ (∀ x ∈ xs, Kn K H x) ∧ b = orderB p h xs) ∨ (∃ t, TyX K H v (.type t) ∧ kitB t "tuple" = some false ∧ b = false)
theorem OrdAt.like {K : PySem.W.Frag} {H : Hp} {v : V} {o : Od} {p h : Nat} (k : OdOk p h o) (q : OrdAt H v o) : OrderLike K H v p h true := by
  obtain ⟨t, rfl, ht⟩ := q
  refine .inl ⟨t, _, rfl, ht, fun x hx => ?_, (orderB_ok k).symm⟩
  unfold Od.vs at hx
  simp only [List.mem_cons, List.not_mem_nil, or_false] at hx
  rcases hx with rfl | rfl | rfl | rfl | rfl <;> exact Kn.int
theorem withinB_int {x : V} {lo hi : Int} (h : withinB x lo hi = true) : ∃ i, x = .int i := by
  cases x <;> first
    | exact ⟨_, rfl⟩
    | cases h
def spIsOrder (K : PySem.W.Frag) : Sp := fun vs H Q _ => ∃ (v : V) (p h : Int) (b : Bool), vs = [.int p, .int h, v] ∧ OrderLike K H v p h b ∧ Q (.bl b) H
section
variable {P : Program} {w : World} {K : PySem.W.Frag} {mg : Str → Option Value} {base : Heap}
theorem ok_is_order {f : Addr} {fd : FuncData} (F : Fun K "is_order" "is_order" s_is_order f fd) (B : Blt mg) (DW : Df P w K mg base "is_within" 2 P_is_within (spWithin K)) (hM : ∃ t, mg "LONGEST_DELAY" = some (.int 9 t)) : FnOk P w K mg base CX0 3 f fd P_is_order (spIsOrder K) := by
  obtain ⟨fW, fdW, gW, kW, bW, GW⟩ := DW
  obtain ⟨tk9, hM⟩ := hM
  refine F.ok sc_is_order (fun vs H Q E h => ?_) (fun cdv A outer s H vs Q E hr h => ?_)
  · obtain ⟨v, p, h, b, rfl, _⟩ := h
    rfl
  · obtain ⟨v, p, h, b, rfl, hl, q⟩ := h
    refine ⟨_, pss_cons (ps_if (PW.pt (pw_or (pt_not (pt_val (pe_callB call_isi (by rfl) B.isi PyProof.Rows.boot_isinstance (pa_cons (pv 2) (pa_cons (pe_bltn (v := .ty "tuple") (by rfl) B.tuple (by decide +kernel) rfl) pa_nil)))))
        (pw_or1 (pt_cmpR op_ne (pe_callB call_len_seq (by rfl) B.len PySem.boot_len (pa_cons (pv 2) pa_nil)) pe_int (nomark _))))) (pss_one (ps_ret pe_bl)) pss_nil)
      (pss_cons (ps_asg (pv 2) (pg_tup (by rfl) (pgs_cons (pg_name (i := 3) sc_is_order.nd rfl (.inl rfl)) (pgs_cons (pg_name (i := 4) sc_is_order.nd rfl (.inl rfl)) (pgs_cons (pg_name (i := 5) sc_is_order.nd rfl (.inl rfl))
        (pgs_cons (pg_name (i := 6) sc_is_order.nd rfl (.inl rfl)) (pgs_cons (pg_name (i := 7) sc_is_order.nd rfl (.inl rfl)) pgs_nil)))))))
      (pss_cons (ps_if (pt_not (PW.pt (pw_and (pt_val (pe_call GW hr (by rfl) gW kW bW .nil pass0 (pa_cons (pv 3) (pa_cons pe_int (pa_cons (pe_op op_sub (pv 1) pe_int) pa_nil)))))
        (pw_and (pt_val (pe_call GW hr (by rfl) gW kW bW .nil pass0 (pa_cons (pv 4) (pa_cons pe_int (pa_cons (pe_op op_sub (pv 1) pe_int) pa_nil)))))
          (pw_and1 (pt_cmpR op_ne (pv 3) (pv 4) (nomark _))))))) (pss_one (ps_ret pe_bl)) pss_nil)
      (pss_one (ps_ret (pe_and (pe_call GW hr (by rfl) gW kW bW .nil pass0 (pa_cons (pv 5) (pa_cons pe_int (pa_cons (pe_op op_sub (pv 0) pe_int) pa_nil))))
        (pe_and (pe_call GW hr (by rfl) gW kW bW .nil pass0 (pa_cons (pv 6) (pa_cons pe_int (pa_cons (pv 0) pa_nil))))
          (pe_one (pe_call GW hr (by rfl) gW kW bW .nil pass0 (pa_cons (pv 7) (pa_cons pe_int (pa_cons (pe_glob (v := .int 9) rfl hM ⟨_, rfl⟩) pa_nil))))))))))), ?_⟩
    rcases hl with ⟨a, xs, rfl, ha, hkn, rfl⟩ | ⟨t, ty, kt, rfl⟩
    · refine ⟨_, rfl, _, _, _, _, true, rfl, .ty "tuple", .base (.tup ha), kit_ty (by decide +kernel), _, rfl, iteF ?_⟩
      refine ⟨_, rfl, a, xs, rfl, .inr (SqT.of ha), rfl, _, rfl, ?_⟩
      refine ite2 (fun e => ?_) (fun e => ?_)
      · have hne : orderB p h xs = false := by
          match xs, e with
          | [], _ => rfl
          | [_], _ => rfl
          | [_, _], _ => rfl
          | [_, _, _], _ => rfl
          | [_, _, _, _], _ => rfl
          | [_, _, _, _, _], e => exact absurd e (by show ¬ (!decide (V.int ((5 : Nat) : Int) = V.int 5)) = true; decide)
          | _ :: _ :: _ :: _ :: _ :: _ :: _, _ => rfl
        rw [hne] at q
        exact q
      · have h5 : xs.length = 5 := by
          by_cases z : xs.length = 5
          · exact z
          · exact absurd (show (!decide (V.int (xs.length : Int) = V.int 5)) = true by
              rw [decide_eq_false (fun z2 => z (by have z3 := V.int.inj z2; omega))]
              rfl) e
        match xs, h5 with
        | [x1, x2, x3, x4, x5], _ =>
          have k1 := hkn x1 (by simp)
          have k2 := hkn x2 (by simp)
          have k3 := hkn x3 (by simp)
          have k4 := hkn x4 (by simp)
          have k5 := hkn x5 (by simp)
          refine ⟨_, rfl, a, _, rfl, SqT.of ha, rfl, _, _, rfl, _, _, rfl, _, _, rfl, _, _, rfl, _, _, rfl, rfl, ?_⟩
          have q2 : Q (.bl (withinB x1 0 (h - 1) && (withinB x2 0 (h - 1) && (!decide (x1 = x2) && (withinB x3 0 (p - 1) && (withinB x4 1 p && withinB x5 1 9)))))) H := q
          refine ⟨_, rfl, _, rfl, _, _, rfl, rfl, x1, 0, h - 1, rfl, k1, _, rfl, ite2 (fun e1 => ?_) (fun e1 => ?_)⟩
          · refine ⟨_, rfl, _, rfl, _, _, rfl, rfl, x2, 0, h - 1, rfl, k2, _, rfl, ite2 (fun e2 => ?_) (fun e2 => ?_)⟩
            · obtain ⟨i1, rfl⟩ := withinB_int e1
              obtain ⟨i2, rfl⟩ := withinB_int e2
              rw [e1, e2, Bool.true_and, Bool.true_and] at q2
              refine ⟨_, rfl, _, rfl, rfl, _, rfl, ?_⟩
              by_cases z : V.int i1 = V.int i2
              · rw [decide_eq_true z] at q2
                rw [decide_eq_true z]
                exact q2
              · rw [decide_eq_false z, Bool.not_false, Bool.true_and] at q2
                rw [decide_eq_false z]
                refine ⟨_, rfl, _, rfl, _, _, rfl, rfl, x3, 0, p - 1, rfl, k3, _, rfl, ite2 (fun e3 => ?_) (fun e3 => ?_)⟩
                · rw [e3, Bool.true_and] at q2
                  refine ⟨_, rfl, _, rfl, x4, 1, p, rfl, k4, _, rfl, ite2 (fun e4 => ?_) (fun e4 => ?_)⟩
                  · rw [e4, Bool.true_and] at q2
                    exact ⟨_, rfl, x5, 1, 9, rfl, k5, q2⟩
                  · rw [Bool.eq_false_iff.mpr e4, Bool.false_and] at q2
                    exact q2
                · rw [Bool.eq_false_iff.mpr e3, Bool.false_and] at q2
                  exact q2
            · rw [e1, Bool.eq_false_iff.mpr e2, Bool.true_and, Bool.false_and] at q2
              exact iteT q2
          · rw [Bool.eq_false_iff.mpr e1, Bool.false_and] at q2
            exact iteT q2
    · exact ⟨_, rfl, _, _, _, _, false, rfl, .ty "tuple", ty, kit_ty kt, _, rfl, iteT q⟩
end
/-! ### walks over an enumerated tuple; check_orders for valid nets; find_followed -/
theorem for_enumT {K : PySem.W.Frag} {a : Addr} {xs : List V} {g : TG} {tb : TS} {D : Ends} {σ : L2.St} {H : Hp} (Pv : Nat → L2.St → Hp → Prop) (h0 : Pv 0 σ H) (hl : ∀ i σ H, Pv i σ H → H a = some (.tup xs))
    (hs : ∀ i x σ H T, xs[i]? = some x → Pv i σ H → H T = none → g (.ref T) σ (upd H T (.tup [.int (i : Nat), x])) fun σ2 H2 => tb { D with nx := Pv (i + 1), ct := Pv (i + 1), bk := D.nx } σ2 H2) (hd : ∀ σ H, Pv xs.length σ H → D.nx σ H) :
    ∃ W : Nat → Nat → L2.St → Hp → Prop, (∃ m, W 0 m σ H) ∧ ∀ i m σ H, W i m σ H →
      ((IteT K a).stop i H ∧ D.nx σ H) ∨ ((IteT K a).go i H ∧ ∃ N : L2.St → Hp → Prop, (∀ σ' H', N σ' H' → ∃ m', m' < m ∧ W (i + 1) m' σ' H') ∧ ∀ x H', (IteT K a).yld i H x H' → g x σ H' fun σ2 H2 => tb { D with nx := N, ct := N, bk := D.nx } σ2 H2) := by
  refine ⟨fun i m σ H => m = xs.length - i ∧ i ≤ xs.length ∧ Pv i σ H, ⟨xs.length, rfl, Nat.zero_le _, h0⟩, ?_⟩
  rintro i m σ H ⟨rfl, hi, p⟩
  have q := hl i σ H p
  by_cases hlt : i < xs.length
  · refine .inr ⟨⟨xs, xs[i], SqT.of q, List.getElem?_eq_getElem hlt⟩, Pv (i + 1), fun σ' H' p' => ⟨xs.length - (i + 1), by omega, rfl, hlt, p'⟩, fun x H' y => ?_⟩
    obtain ⟨T, x', rfl, nT, rfl, f⟩ := y
    obtain rfl : x' = xs[i] := Option.some.inj ((f xs (SqT.of q)).symm.trans (List.getElem?_eq_getElem hlt))
    exact hs i _ σ H T (List.getElem?_eq_getElem hlt) p nT
  · refine .inl ⟨⟨xs, SqT.of q, by omega⟩, hd σ H ?_⟩
    rw [show xs.length = i by omega]
    exact p
def spChkOrders : Sp := fun vs H Q _ => ∃ (t : Addr) (p h : Nat) (os : List Od), vs = [.int p, .int h, .ref t] ∧ NetOk p h os ∧ OrdsTup H t os ∧ ∀ H', Same H H' → Q .non H'
section
variable {P : Program} {w : World} {K : PySem.W.Frag} {mg : Str → Option Value} {base : Heap}
theorem ok_chk_orders {f : Addr} {fd : FuncData} (F : Fun K "check_orders" "check_orders" s_check_orders f fd) (B : Blt mg) (DI : Df P w K mg base "is_order" 3 P_is_order (spIsOrder K)) (hM : ∃ t, mg "MOST_ORDERS" = some (.int 20 t)) : FnOk P w K mg base CX0 4 f fd P_check_orders spChkOrders := by
  obtain ⟨fI, fdI, gI, kI, bI, GI⟩ := DI
  obtain ⟨tk20, hM⟩ := hM
  refine F.ok sc_check_orders (fun vs H Q E h => ?_) (fun cdv A outer s H vs Q E hr h => ?_)
  · obtain ⟨t, p, h, os, rfl, _⟩ := h
    rfl
  · obtain ⟨t, p, h, os, rfl, N, ⟨ts, ht, hP⟩, q⟩ := h
    refine ⟨_, pss_cons (ps_if (pt_not (pt_val (pe_callB call_isi (by rfl) B.isi PyProof.Rows.boot_isinstance (pa_cons (pv 2) (pa_cons (pe_bltn (v := .ty "tuple") (by rfl) B.tuple (by decide +kernel) rfl) pa_nil))))) (pss_one ps_never) pss_nil)
      (pss_one (ps_for PassesOwn.never rfl (pi_enumT (by rfl) B.enum (pa_cons (pv 2) pa_nil)) (pg_tup (by rfl) (pgs_cons (pg_name (i := 3) sc_check_orders.nd rfl (.inl rfl)) (pgs_cons (pg_name (i := 4) sc_check_orders.nd rfl (.inl rfl)) pgs_nil)))
        (pss_one (ps_if (PW.pt (pw_or (pt_cmpR op_eq (pv 3) (pe_glob (v := .int 20) rfl hM ⟨_, rfl⟩) (nomark _)) (pw_or1 (pt_not (pt_val (pe_call GI hr (by rfl) gI kI bI .nil pass0 (pa_cons (pv 0) (pa_cons (pv 1) (pa_cons (pv 4) pa_nil)))))))))
          (pss_one ps_never) pss_nil)))), ?_⟩
    refine ⟨_, rfl, _, _, _, _, true, rfl, .ty "tuple", .base (.tup ht), kit_ty (by decide +kernel), _, rfl, iteF ?_⟩
    refine ⟨_, rfl, t, ts, rfl, ht, for_enumT (K := K) (a := t) (xs := ts) (fun i σ H' => (∃ x y, σ = [some (.int p), some (.int h), some (.ref t), x, y]) ∧ Same H H') ⟨⟨_, _, rfl⟩, .refl H⟩ (fun i σ H' ⟨_, s1⟩ => s1 _ _ ht) ?_ ?_⟩
    · rintro i x σ H1 T hi ⟨⟨x3, x4, rfl⟩, s1⟩ nT
      have s2 := same_upd (o := HO.tup [.int (i : Nat), x]) nT
      have hil : i < ts.length := (List.getElem?_eq_some_iff.mp hi).1
      have hlen := hP.length
      have hlen2 := N.len
      refine ⟨T, _, rfl, SqT.of upd_same, rfl, _, _, rfl, _, _, rfl, rfl, ?_⟩
      refine ⟨_, rfl, rfl, _, rfl, ?_⟩
      have e1 : decide (V.int ((i : Nat) : Int) = V.int 20) = false := decide_eq_false fun z => by
        have z2 := V.int.inj z
        omega
      rw [e1]
      obtain ⟨x', hx', ho⟩ := Paired.get? (i := i) hP (List.getElem?_eq_getElem (by omega))
      obtain rfl : x' = x := Option.some.inj (hx'.symm.trans hi)
      have hk := N.ok _ (List.getElem_mem (by omega : i < os.length))
      exact iteF ⟨_, rfl, _, rfl, _, rfl, x', p, h, true, rfl, OrdAt.like hk (ho.keep (tk_of (s1.trans s2))), _, rfl, iteF ⟨⟨_, _, rfl⟩, s1.trans s2⟩⟩
    · rintro σ H1 ⟨_, s1⟩
      exact q H1 s1
end
/-! the table of the orders that are followed -/
def amongB (p f : Nat) : Nat → Nat → Bool
  | 0, _ => false
  | l + 1, d => amongB p f l d || decide ((f + l) % p = d)
theorem amongB_iff {p f d : Nat} : ∀ l, amongB p f l d = true ↔ among p f l d
  | 0 => ⟨fun h => Bool.noConfusion h, fun h => absurd h (among_zero _ _ _)⟩
  | l + 1 => by
    show (amongB p f l d || decide ((f + l) % p = d)) = true ↔ _
    rw [among_succ, Bool.or_eq_true, amongB_iff l, decide_eq_true_iff]
def cellV (p : Nat) (os : List Od) (s d : Nat) : V := optV (idx p os s (d : Int))
/-- amid the order o, the k-th: its first l days are done -/
def cellM (p : Nat) (os : List Od) (o : Od) (k l s d : Nat) : V := optV ((idx p os s (d : Int)).or (if (decide (s = o.s) && amongB p o.f l d) = true then some k else none))
structure TabAt (H0 H : Hp) (fl : Addr) (p h : Nat) (g : Nat → Nat → V) (as : List Addr) : Prop where
  same : Same H0 H
  len : as.length = h
  fl0 : H0 fl = none
  flat : H fl = some (.lst (as.map V.ref))
  nd : as.Nodup
  out : fl ∉ as
  new : ∀ a ∈ as, H0 a = none
  row : ∀ i a, as[i]? = some a → H a = some (.lst ((List.range p).map (g i)))
theorem TabAt.congr {H0 H : Hp} {fl : Addr} {p h : Nat} {g g' : Nat → Nat → V} {as : List Addr} (T : TabAt H0 H fl p h g as) (e : ∀ s d, s < h → d < p → g s d = g' s d) : TabAt H0 H fl p h g' as := by
  refine { T with row := fun i a hi => ?_ }
  rw [T.row i a hi]
  have hi2 := (List.getElem?_eq_some_iff.mp hi).1
  rw [List.map_congr_left fun d hd => e i d (by rw [← T.len]; exact hi2) (List.mem_range.mp hd)]
theorem TabAt.keep {H0 H H' : Hp} {fl : Addr} {p h : Nat} {g : Nat → Nat → V} {as : List Addr} (T : TabAt H0 H fl p h g as) (s : Same H H') : TabAt H0 H' fl p h g as :=
  { T with same := T.same.trans s, flat := s _ _ T.flat, row := fun i a hi => s _ _ (T.row i a hi) }
theorem range_set {p dd : Nat} {g : Nat → V} {v : V} : ((List.range p).map g).set dd v = (List.range p).map fun d => if d = dd then v else g d := by
  apply List.ext_getElem
  · simp
  · intro i h1 h2
    rw [List.getElem_set]
    simp only [List.getElem_map, List.getElem_range]
    by_cases z : dd = i
    · subst z; simp
    · rw [if_neg z, if_neg (Ne.symm z)]
theorem TabAt.set {H0 H : Hp} {fl a : Addr} {p h s dd : Nat} {g : Nat → Nat → V} {as : List Addr} {v : V} (T : TabAt H0 H fl p h g as) (ha : as[s]? = some a) :
    TabAt H0 (upd H a (.lst (((List.range p).map (g s)).set dd v))) fl p h (fun i d => if i = s ∧ d = dd then v else g i d) as := by
  have ham : a ∈ as := List.mem_of_getElem? ha
  have sl : s < as.length := (List.getElem?_eq_some_iff.mp ha).1
  refine { T with same := fun b o e => ?_, flat := ?_, row := fun i b hi => ?_ }
  · have n : b ≠ a := fun z => by
      have q := T.new a ham
      rw [← z, e] at q
      cases q
    rw [upd_ne n]
    exact T.same _ _ e
  · have n : fl ≠ a := fun z => T.out (by rw [z]; exact ham)
    rw [upd_ne n]
    exact T.flat
  · by_cases z : i = s
    · subst z
      obtain rfl : b = a := Option.some.inj (hi.symm.trans ha)
      rw [upd_same, range_set]
      congr 2
      apply List.map_congr_left
      intro d _
      by_cases z2 : d = dd
      · simp [z2]
      · simp [z2]
    · have n : b ≠ a := fun z2 => by
        subst z2
        have i1 := (List.getElem?_eq_some_iff.mp hi)
        have i2 := (List.getElem?_eq_some_iff.mp ha)
        obtain ⟨l1, e1⟩ := i1
        obtain ⟨l2, e2⟩ := i2
        have pw := List.pairwise_iff_getElem.mp T.nd
        rcases Nat.lt_or_gt_of_ne z with q | q
        · exact pw i s l1 l2 q (e1.trans e2.symm)
        · exact pw s i l2 l1 q (e2.trans e1.symm)
      rw [upd_ne n, T.row i b hi]
      congr 2
      apply List.map_congr_left
      intro d _
      rw [if_neg (fun q => z q.1)]
def spFollowed : Sp := fun vs H Q _ => ∃ (t : Addr) (p h : Nat) (os : List Od), vs = [.int p, .int h, .ref t] ∧ NetOk p h os ∧ OrdsTup H t os ∧ ∀ H' fl as, TabAt H H' fl p h (cellV p os) as → Q (.ref fl) H'
theorem rep_flat {p : Nat} {v : V} : (List.replicate p [v]).flatten = List.replicate p v := by
  induction p with
  | zero => rfl
  | succ n ih => rw [List.replicate_succ, List.flatten_cons, ih]; rfl
theorem rep_range {p : Nat} {v : V} : List.replicate p v = (List.range p).map fun _ => v := by
  rw [List.map_const', List.length_range]
theorem optV_non {o : Option Nat} (h : optV o = .non) : o = none := by
  cases o with
  | none => rfl
  | some k => cases h
theorem cellM_hit {p i l s d : Nat} {os : List Od} {o : Od} (h : cellM p os o i l o.s ((o.f + l) % p) = .non) :
    (if s = o.s ∧ d = (o.f + l) % p then V.int (i : Nat) else cellM p os o i l s d) = cellM p os o i (l + 1) s d := by
  unfold cellM at *
  by_cases c : s = o.s ∧ d = (o.f + l) % p
  · rw [if_pos c]
    obtain ⟨c1, c2⟩ := c
    subst c1 c2
    have z := optV_non h
    rw [Option.or_eq_none_iff] at z
    rw [z.1]
    have e : (decide (o.s = o.s) && amongB p o.f (l + 1) ((o.f + l) % p)) = true := by
      rw [decide_eq_true rfl, Bool.true_and]
      exact (amongB_iff (l + 1)).mpr (among_succ.mpr (.inr rfl))
    rw [if_pos e]
    rfl
  · rw [if_neg c]
    have e : (decide (s = o.s) && amongB p o.f l d) = (decide (s = o.s) && amongB p o.f (l + 1) d) := by
      by_cases c1 : s = o.s
      · have c2 : ¬ (o.f + l) % p = d := fun z => c ⟨c1, z.symm⟩
        show _ = (_ && (amongB p o.f l d || decide ((o.f + l) % p = d)))
        rw [decide_eq_false c2, Bool.or_false]
      · rw [decide_eq_false c1, Bool.false_and, Bool.false_and]
    rw [e]
theorem cellM_miss {p i l s d : Nat} {os : List Od} {o : Od} (h : cellM p os o i l o.s ((o.f + l) % p) ≠ .non) : cellM p os o i l s d = cellM p os o i (l + 1) s d := by
  by_cases c : s = o.s ∧ d = (o.f + l) % p
  · obtain ⟨c1, c2⟩ := c
    subst c1 c2
    unfold cellM at *
    have e : (decide (o.s = o.s) && amongB p o.f (l + 1) ((o.f + l) % p)) = true := by
      rw [decide_eq_true rfl, Bool.true_and]
      exact (amongB_iff (l + 1)).mpr (among_succ.mpr (.inr rfl))
    rw [if_pos e]
    cases q : idx p os o.s ((o.f + l) % p : Nat) with
    | some k => rfl
    | none =>
      rw [q] at h
      by_cases c : (decide (o.s = o.s) && amongB p o.f l ((o.f + l) % p)) = true
      · rw [if_pos c]
      · rw [if_neg c] at h
        exact absurd rfl h
  · unfold cellM
    have e : (decide (s = o.s) && amongB p o.f l d) = (decide (s = o.s) && amongB p o.f (l + 1) d) := by
      by_cases c1 : s = o.s
      · have c2 : ¬ (o.f + l) % p = d := fun z => c ⟨c1, z.symm⟩
        show _ = (_ && (amongB p o.f l d || decide ((o.f + l) % p = d)))
        rw [decide_eq_false c2, Bool.or_false]
      · rw [decide_eq_false c1, Bool.false_and, Bool.false_and]
    rw [e]
theorem cellM_end {p h i s d : Nat} {os : List Od} {o : Od} (k : OdOk p h o) (hi : os[i]? = some o) (hd : d < p) : cellM p (os.take i) o i o.n s d = cellV p (os.take (i + 1)) s d := by
  unfold cellM cellV
  rw [idx_take_succ hi]
  have e : (decide (s = o.s) && amongB p o.f o.n d) = hit p s (d : Int) o := by
    unfold hit
    have e1 : amongB p o.f o.n d = onDay p o (d : Int) := by
      rw [Bool.eq_iff_iff, amongB_iff, among_on k hd]
    rw [e1]
    by_cases c : s = o.s
    · rw [decide_eq_true c, decide_eq_true c.symm]
    · rw [decide_eq_false c, decide_eq_false fun z => c z.symm]
  rw [e]
abbrev s_find_followed : Stmt := top 40
abbrev N_find_followed : List Str := ["period", "houses", "orders", "followed", "index", "source", "target", "first", "days", "delay", "later", "day", "house"]
abbrev P_find_followed : List Str := ["period", "houses", "orders"]
theorem sc_find_followed : FnScope N_find_followed P_find_followed (defScope s_find_followed) := ⟨rfl, rfl, rfl, by decide +kernel, rfl, by decide +kernel, by decide +kernel⟩
section
variable {P : Program} {w : World} {K : PySem.W.Frag} {mg : Str → Option Value} {base : Heap}
theorem ok_followed {f : Addr} {fd : FuncData} (F : Fun K "find_followed" "find_followed" s_find_followed f fd) (B : Blt mg) : FnOk P w K mg base CX0 2 f fd P_find_followed spFollowed := by
  refine F.ok sc_find_followed (fun vs H Q E h => ?_) (fun cdv A outer s H vs Q E hr h => ?_)
  · obtain ⟨t, p, h, os, rfl, _⟩ := h
    rfl
  · obtain ⟨t, p, h, os, rfl, N, hO, q⟩ := h
    obtain ⟨ts, ht, hP⟩ := id hO
    have p1 := N.p1; have p30 := N.p30; have h1 := N.h1; have h10 := N.h10; have ol := N.len
    refine ⟨_, pss_cons (ps_setLc (i := 3) (own := [("house", 12)]) (g := gName 12) (tt := tYes) (by rfl) sc_find_followed.nd rfl rfl (sw_true rfl rfl rfl (by decide +kernel))
          (pi_range1 rfl B.range (pa_cons (pv 1) pa_nil)) (blkOk_by (N := N_find_followed) (sc := defScope s_find_followed) (by decide +kernel)) (fun _ _ _ _ _ => pg_name (i := 12) sc_find_followed.nd rfl (.inl rfl)) (fun _ _ _ _ _ => pts_nil)
          (fun _ _ _ _ _ => pe_op op_rep (pe_lst (pa_cons pe_non pa_nil)) (pv 0)))
      (pss_cons (ps_for PassesOwn.never rfl (pi_enumT (by rfl) B.enum (pa_cons (pv 2) pa_nil)) (pg_tup (by rfl) (pgs_cons (pg_name (i := 4) sc_find_followed.nd rfl (.inl rfl)) (pgs_cons (pg_tup (by rfl)
            (pgs_cons (pg_name (i := 5) sc_find_followed.nd rfl (.inl rfl)) (pgs_cons (pg_name (i := 6) sc_find_followed.nd rfl (.inl rfl)) (pgs_cons (pg_name (i := 7) sc_find_followed.nd rfl (.inl rfl)) (pgs_cons (pg_name (i := 8) sc_find_followed.nd rfl (.inl rfl)) (pgs_cons (pg_name (i := 9) sc_find_followed.nd rfl (.inl rfl)) pgs_nil)))))) pgs_nil)))
        (pss_one (ps_for PassesOwn.never rfl (pi_range1 rfl B.range (pa_cons (pv 8) pa_nil)) (pg_name (i := 10) sc_find_followed.nd rfl (.inl rfl))
          (pss_cons (ps_set (i := 11) sc_find_followed.nd rfl (.inl rfl) (pe_op op_modN (pe_op op_add (pv 7) (pv 10)) (pv 0)))
          (pss_one (ps_if (pt_cmpR op_isN (pe_ix ix_list (pe_ix ix_list (pv 3) (pv 5) (fun _ _ => rfl)) (pv 11) (fun _ _ => rfl)) pe_non (nomark _))
            (pss_one (ps_asg (pv 4) (pg_sub (pe_ix ix_list (pv 3) (pv 5) (fun _ _ => rfl)) (pv 11) set_list))) pss_nil))))))
      (pss_one (ps_ret (pv 3)))), ?_⟩
    -- the empty table
    refine ⟨_, rfl, h, rfl, by omega, by omega, fun D nD => ?_⟩
    refine lc_range (lo := 0) (n := (h : Int).toNat) (fun i H' => ∃ as, TabAt H H' D p i (fun _ _ => .non) as) ⟨[], same_upd nD, rfl, nD, upd_same, List.nodup_nil, by simp, by simp, fun i a z => by simp at z⟩ ?_ ?_
    · rintro i H' hi ⟨as, T⟩
      refine ⟨rfl, Nat.le_trans (by decide : 1 ≤ 1000) (Nat.le_of_lt (small1000 (Nat.le_refl _))), fun l0 nl0 => ?_⟩
      have T1 := T.keep (same_upd (o := HO.lst [V.non]) nl0)
      refine ⟨_, rfl, l0, p, [.non], rfl, rfl, upd_same, by omega, by omega, Nat.le_of_lt (small1000 (by show 1 * (p : Int).toNat ≤ 1000; omega)), fun r nr => ?_⟩
      have T2 := T1.keep (same_upd (o := HO.lst (List.replicate (p : Int).toNat [V.non]).flatten) nr)
      have fD := T2.flat
      refine ⟨_, fD, small1000 (by rw [List.length_map, T.len]; omega), as ++ [r], ?_⟩
      have nrD : r ≠ D := (ne_of_none T1.flat nr).symm
      have nas : r ∉ as := fun z => by
        obtain ⟨j, hj⟩ := List.getElem?_of_mem z
        exact ne_of_none (T1.row j r hj) nr rfl
      have nr0 : H r = none := T1.same.free nr
      refine ⟨fun b o e => ?_, by rw [List.length_append, T.len]; rfl, T.fl0, ?_, ?_, ?_, ?_, ?_⟩
      · rw [upd_ne (ne_of_none e T.fl0)]
        exact T2.same _ _ e
      · rw [upd_same, List.map_append]
        rfl
      · rw [List.nodup_append]
        exact ⟨T.nd, by simp, fun a ha b hb => by rw [List.mem_singleton.mp hb]; exact fun z => nas (z ▸ ha)⟩
      · intro z
        rcases List.mem_append.mp z with z | z
        · exact T.out z
        · exact nrD (List.mem_singleton.mp z).symm
      · intro a ha
        rcases List.mem_append.mp ha with z | z
        · exact T.new a z
        · rw [List.mem_singleton.mp z]
          exact nr0
      · intro j a hj
        by_cases z : j < as.length
        · rw [List.getElem?_append_left z] at hj
          have hn : a ≠ D := fun z2 => T.out (by rw [← z2]; exact List.mem_of_getElem? hj)
          rw [upd_ne hn]
          exact T2.row j a hj
        · rw [List.getElem?_append_right (by omega)] at hj
          obtain ⟨hj1, hj2⟩ := List.getElem?_eq_some_iff.mp hj
          have e0 : j - as.length = 0 := by
            have : j - as.length < 1 := hj1
            omega
          have ea : a = r := by
            rw [e0] at hj
            exact (Option.some.inj hj).symm
          rw [ea, upd_ne nrD, upd_same, rep_flat, rep_range]
          rfl
    · rintro H1 ⟨as, T⟩
      have hO1 : H1 t = some (.tup ts) := T.same _ _ ht
      -- each order
      refine ⟨_, rfl, t, ts, rfl, hO1, for_enumT (K := K) (a := t) (xs := ts) (fun i σ H' => (∃ x4 x5 x6 x7 x8 x9 x10 x11, σ = [some (.int p), some (.int h), some (.ref t), some (.ref D), x4, x5, x6, x7, x8, x9, x10, x11, none]) ∧ TabAt H H' D p h (cellV p (os.take i)) as)
        ⟨⟨_, _, _, _, _, _, _, _, rfl⟩, by exact T.congr fun s d _ _ => rfl⟩ (fun i σ H' ⟨_, T'⟩ => T'.same _ _ ht) ?_ ?_⟩
      · rintro i x σ H2 X hi ⟨⟨x4, x5, x6, x7, x8, x9, x10, x11, rfl⟩, T2⟩ nX
        have T3 := T2.keep (same_upd (o := HO.tup [.int (i : Nat), x]) nX)
        have hil : i < ts.length := (List.getElem?_eq_some_iff.mp hi).1
        have hlen := hP.length
        have hio : os[i]? = some (os[i]'(by omega)) := List.getElem?_eq_getElem (by omega)
        obtain ⟨x', hx', y, rfl, hy⟩ := Paired.get? (i := i) hP hio
        obtain rfl : V.ref y = x := Option.some.inj (hx'.symm.trans hi)
        generalize eo : os[i]'(by omega) = o at hio hy
        have hk : OdOk p h o := by rw [← eo]; exact N.ok _ (List.getElem_mem _)
        have k1 := hk.s; have k4 := hk.f; have k5 := hk.n1; have k6 := hk.n
        have hy3 := T3.same _ _ hy
        refine ⟨X, _, rfl, SqT.of upd_same, rfl, _, _, rfl, _, _, rfl, ⟨y, _, rfl, SqT.of hy3, rfl, _, _, rfl, _, _, rfl, _, _, rfl, _, _, rfl, _, _, rfl, rfl, rfl, ?_⟩⟩
        refine ⟨_, rfl, o.n, rfl, by omega, by omega, for_range (lo := 0) (n := (o.n : Int).toNat) (fun l σ H' => (∃ x10 x11, σ = [some (.int p), some (.int h), some (.ref t), some (.ref D), some (.int (i : Nat)), some (.int o.s), some (.int o.t), some (.int o.f), some (.int o.n), some (.int o.e), x10, x11, none]) ∧ TabAt H H' D p h (cellM p (os.take i) o i l) as)
          ⟨⟨_, _, rfl⟩, T3.congr fun s d _ _ => ?_⟩ ?_ ?_⟩
        · show optV (idx p (os.take i) s d) = optV ((idx p (os.take i) s d).or (if (decide (s = o.s) && false) = true then some i else none))
          rw [Bool.and_false, if_neg Bool.false_ne_true, Option.or_none]
        · rintro l σ H4 hl ⟨⟨x10, x11, rfl⟩, T4⟩
          have hl2 : l < o.n := by omega
          refine ⟨_, rfl, _, rfl, _, _, rfl, rfl, _, rfl, _, _, rfl, rfl, by omega, ?_⟩
          have ed : Int.fmod ((o.f : Int) + (0 + (l : Int))) (p : Int) = (((o.f + l) % p : Nat) : Int) := by
            rw [Int.zero_add]
            exact fmod_nat (o.f + l) p
          have hd : (o.f + l) % p < p := Nat.mod_lt _ (by omega)
          generalize hdd : (o.f + l) % p = dd at ed hd
          have hsl : o.s < as.length := by rw [T4.len]; exact k1
          have ha := List.getElem?_eq_getElem hsl
          generalize as[o.s] = a at ha
          have hmap : (as.map V.ref)[o.s]? = some (.ref a) := by rw [List.getElem?_map, ha]; rfl
          have hrow := T4.row _ _ ha
          have hcell : ((List.range p).map (cellM p (os.take i) o i l o.s))[dd]? = some (cellM p (os.take i) o i l o.s dd) := by
            rw [List.getElem?_map, List.getElem?_range hd]
            rfl
          show ∃ v, _
          refine ⟨_, rfl, _, rfl, D, _, _, _, rfl, rfl, SqL.of T4.flat, atI_nat hmap, ?_⟩
          refine ⟨_, rfl, a, _, (dd : Int), _, rfl, by rw [← ed], SqL.of hrow, atI_nat hcell, ?_⟩
          refine ⟨rfl, _, rfl, ite2 (fun e => ?_) (fun e => ?_)⟩
          · have en : cellM p (os.take i) o i l o.s dd = .non := of_decide_eq_true e
            refine ⟨_, rfl, _, rfl, _, rfl, D, _, _, _, rfl, rfl, SqL.of T4.flat, atI_nat hmap, ?_⟩
            refine ⟨_, rfl, a, _, (dd : Int), dd, rfl, by rw [← ed], hrow, ix_at (by rw [List.length_map, List.length_range]; exact hd), ?_⟩
            refine ⟨⟨_, _, rfl⟩, (T4.set ha).congr fun s d hs hd2 => ?_⟩
            subst hdd
            exact cellM_hit en
          · refine ⟨⟨_, _, rfl⟩, T4.congr fun s d hs hd2 => ?_⟩
            subst hdd
            exact cellM_miss (fun z => e (decide_eq_true z))
        · rintro σ H4 ⟨⟨x10, x11, rfl⟩, T4⟩
          exact ⟨⟨_, _, _, _, _, _, _, _, rfl⟩, T4.congr fun s d hs hd => cellM_end hk hio hd⟩
      · rintro σ H2 ⟨⟨x4, x5, x6, x7, x8, x9, x10, x11, rfl⟩, T2⟩
        refine ⟨_, rfl, q _ D as (T2.congr fun s d _ _ => ?_)⟩
        rw [List.take_of_length_le (by rw [← hP.length]; exact Nat.le_refl _)]
end
abbrev s_Net_init : Stmt := inClass (top 35) 0
abbrev N_Net_init : List Str := ["self", "period", "houses", "orders"]
abbrev P_Net_init : List Str := ["self", "period", "houses", "orders"]
theorem sc_Net_init : FnScope N_Net_init P_Net_init (defScope s_Net_init) := ⟨rfl, rfl, rfl, by decide +kernel, rfl, by decide +kernel, by decide +kernel⟩
/-! ### a net, made and read -/
def NetFs (p h : Nat) (t fl : Addr) : List (Str × V) := putF "followed" (.ref fl) (putF "orders" (.ref t) (putF "houses" (.int h) (putF "period" (.int p) [])))
theorem sFO : ¬ ("orders" : Str) = "followed" := by decide +kernel
theorem sFH : ¬ ("houses" : Str) = "followed" := by decide +kernel
theorem sFP : ¬ ("period" : Str) = "followed" := by decide +kernel
theorem sOH : ¬ ("houses" : Str) = "orders" := by decide +kernel
theorem sOP : ¬ ("period" : Str) = "orders" := by decide +kernel
theorem sHP : ¬ ("period" : Str) = "houses" := by decide +kernel
theorem nf_fl {p h : Nat} {t fl : Addr} : (NetFs p h t fl).lookup ("followed" : Str) = some (.ref fl) := by
  unfold NetFs
  rw [lookup_putF, if_pos rfl]
theorem nf_or {p h : Nat} {t fl : Addr} : (NetFs p h t fl).lookup ("orders" : Str) = some (.ref t) := by
  unfold NetFs
  rw [lookup_putF, if_neg sFO, lookup_putF, if_pos rfl]
theorem nf_ho {p h : Nat} {t fl : Addr} : (NetFs p h t fl).lookup ("houses" : Str) = some (.int h) := by
  unfold NetFs
  rw [lookup_putF, if_neg sFH, lookup_putF, if_neg sOH, lookup_putF, if_pos rfl]
theorem nf_pe {p h : Nat} {t fl : Addr} : (NetFs p h t fl).lookup ("period" : Str) = some (.int p) := by
  unfold NetFs
  rw [lookup_putF, if_neg sFP, lookup_putF, if_neg sOP, lookup_putF, if_neg sHP, lookup_putF, if_pos rfl]
theorem nf_no {p h : Nat} {t fl : Addr} {m : Str} (h1 : ¬ m = "followed") (h2 : ¬ m = "orders") (h3 : ¬ m = "houses") (h4 : ¬ m = "period") : (NetFs p h t fl).lookup m = none := by
  unfold NetFs
  rw [lookup_putF, if_neg h1, lookup_putF, if_neg h2, lookup_putF, if_neg h3, lookup_putF, if_neg h4]
  rfl
/-- what the class says -/
structure NetT (K : PySem.W.Frag) (C : Addr) : Prop where
  cl : Cls K C
  nP : NoAttr K C "period"
  nH : NoAttr K C "houses"
  nO : NoAttr K C "orders"
  nF : NoAttr K C "followed"
/-- a net of these parts at x; F: its own addresses -/
def NetAt (C : Addr) (H : Hp) (x : Addr) (p h : Nat) (os : List Od) (t : Addr) (F : List Addr) : Prop := ∃ dx fl as, F = x :: fl :: as ∧ H x = some (.ins C dx (NetFs p h t fl)) ∧ OrdsTup H t os ∧
  H fl = some (.lst (as.map V.ref)) ∧ as.length = h ∧ ∀ i a, as[i]? = some a → H a = some (.lst ((List.range p).map (cellV p os i)))
theorem NetAt.keep {C : Addr} {H H' : Hp} {x : Addr} {p h : Nat} {os : List Od} {t : Addr} {F : List Addr} (N : NetAt C H x p h os t F) (k : TupKeep H H') (kf : ∀ b ∈ F, ∀ o, H b = some o → H' b = some o) : NetAt C H' x p h os t F := by
  obtain ⟨dx, fl, as, rfl, h1, h2, h3, h4, h5⟩ := N
  refine ⟨dx, fl, as, rfl, kf _ (by simp) _ h1, h2.keep k, kf _ (by simp) _ h3, h4, fun i a hi => kf _ ?_ _ (h5 i a hi)⟩
  exact List.mem_cons_of_mem _ (List.mem_cons_of_mem _ (List.mem_of_getElem? hi))
theorem NetAt.same {C : Addr} {H H' : Hp} {x : Addr} {p h : Nat} {os : List Od} {t : Addr} {F : List Addr} (N : NetAt C H x p h os t F) (s : Same H H') : NetAt C H' x p h os t F := N.keep (tk_of s) fun b _ o e => s b o e
theorem NetAt.but {C : Addr} {H H' : Hp} {x : Addr} {p h : Nat} {os : List Od} {t d : Addr} {F : List Addr} (N : NetAt C H x p h os t F) (s : But d H H') (k : TupKeep H H') (n : d ∉ F) : NetAt C H' x p h os t F := N.keep k fun b hb o e => s b o (fun z => n (z ▸ hb)) e
theorem NetAt.new {C : Addr} {H : Hp} {x : Addr} {p h : Nat} {os : List Od} {t u : Addr} {F : List Addr} (N : NetAt C H x p h os t F) (n : H u = none) : u ∉ F := by
  obtain ⟨dx, fl, as, rfl, h1, h2, h3, h4, h5⟩ := N
  intro z
  rcases List.mem_cons.mp z with z | z
  · exact ne_of_none h1 n z.symm
  rcases List.mem_cons.mp z with z | z
  · exact ne_of_none h3 n z.symm
  obtain ⟨j, hj⟩ := List.getElem?_of_mem z
  exact ne_of_none (h5 j u hj) n rfl
def spInit (C : Addr) : Sp := fun vs H Q _ => ∃ (x dx t : Addr) (p h : Nat) (os : List Od) (H0 : Hp), vs = [.ref x, .int p, .int h, .ref t] ∧ NetOk p h os ∧ OrdsTup H t os ∧ Same H0 H ∧ H0 x = none ∧ H x = some (.ins C dx []) ∧
  ∀ H' F, Same H0 H' → (∀ b ∈ F, H0 b = none) → NetAt C H' x p h os t F → Q .non H'
section
variable {P : Program} {w : World} {K : PySem.W.Frag} {mg : Str → Option Value} {base : Heap}
theorem ok_init {f C : Addr} {fd : FuncData} (F : Fun K "__init__" "Net.__init__" s_Net_init f fd) (T : NetT K C) (DW : Df P w K mg base "is_within" 2 P_is_within (spWithin K)) (DC : Df P w K mg base "check_orders" 4 P_check_orders spChkOrders)
    (DF : Df P w K mg base "find_followed" 2 P_find_followed spFollowed) (hP : ∃ t, mg "LONGEST_PERIOD" = some (.int 30 t)) (hH : ∃ t, mg "MOST_HOUSES" = some (.int 10 t)) : FnOk P w K mg base CX0 5 f fd P_Net_init (spInit C) := by
  obtain ⟨fW, fdW, gW, kW, bW, GW⟩ := DW
  obtain ⟨fC, fdC, gC, kC, bC, GC⟩ := DC
  obtain ⟨fF, fdF, gF, kF, bF, GF⟩ := DF
  obtain ⟨tkP, hP⟩ := hP
  obtain ⟨tkH, hH⟩ := hH
  refine F.ok sc_Net_init (fun vs H Q E h => ?_) (fun cdv A outer s H vs Q E hr h => ?_)
  · obtain ⟨x, dx, t, p, h, os, H0, rfl, _⟩ := h
    rfl
  · obtain ⟨x, dx, t, p, h, os, H0, rfl, N, hO, s0, x0, hx, q⟩ := h
    have hr1 : Room 2 _ := hr.mono (by decide)
    refine ⟨_, pss_cons (ps_if (pt_not (pt_val (pe_call GW hr1 (by rfl) gW kW bW .nil pass0 (pa_cons (pv 1) (pa_cons pe_int (pa_cons (pe_glob (v := .int 30) rfl hP ⟨_, rfl⟩) pa_nil)))))) (pss_one ps_never) pss_nil)
      (pss_cons (ps_if (pt_not (pt_val (pe_call GW hr1 (by rfl) gW kW bW .nil pass0 (pa_cons (pv 2) (pa_cons pe_int (pa_cons (pe_glob (v := .int 10) rfl hH ⟨_, rfl⟩) pa_nil)))))) (pss_one ps_never) pss_nil)
      (pss_cons (ps_expr (pe_call GC hr (by rfl) gC kC bC .nil pass0 (pa_cons (pv 1) (pa_cons (pv 2) (pa_cons (pv 3) pa_nil)))))
      (pss_cons (ps_fld (pv 0) (pv 1) rfl) (pss_cons (ps_fld (pv 0) (pv 2) rfl) (pss_cons (ps_fld (pv 0) (pv 3) rfl)
      (pss_one (ps_fld (pv 0) (pe_call GF hr1 (by rfl) gF kF bF .nil pass0 (pa_cons (pv 1) (pa_cons (pv 2) (pa_cons (pv 3) pa_nil)))) rfl))))))), ?_⟩
    have w1 : withinB (.int p) 1 30 = true := within_nat (lo := 1) (hi := 30) N.p1 N.p30
    have w2 : withinB (.int h) 1 10 = true := within_nat (lo := 1) (hi := 10) N.h1 N.h10
    refine ⟨_, rfl, .int p, 1, 30, rfl, .int, _, rfl, ?_⟩
    rw [w1]
    refine iteF ⟨_, rfl, .int h, 1, 10, rfl, .int, _, rfl, ?_⟩
    rw [w2]
    refine iteF ⟨_, rfl, _, rfl, _, rfl, t, p, h, os, rfl, N, hO, fun H1 s1 => ?_⟩
    have hx1 := s1 _ _ hx
    have nt : t ≠ x := by
      obtain ⟨ts, ht, _⟩ := hO
      exact ne_of ht hx (by intro z; cases z)
    refine ⟨_, rfl, _, rfl, x, C, dx, [], rfl, hx1, T.cl, T.nP, (by show 0 < 1000; decide), ?_⟩
    refine ⟨_, rfl, _, rfl, x, C, dx, _, rfl, upd_same, T.cl, T.nH, (by show 1 < 1000; decide), ?_⟩
    refine ⟨_, rfl, _, rfl, x, C, dx, _, rfl, upd_same, T.cl, T.nO, ?_, ?_⟩
    · show (putF "houses" _ (putF "period" _ [])).length < 1000
      have : (putF "houses" (.int (h : Int)) (putF "period" (.int (p : Int)) [])).length ≤ 2 := by
        show (if ("period" : Str) = "houses" then _ else _ : List (Str × V)).length ≤ 2
        rw [if_neg sHP]
        exact Nat.le_refl _
      omega
    rw [upd_upd, upd_upd]
    refine ⟨_, rfl, _, rfl, _, rfl, t, p, h, os, rfl, N, ?_, fun H2 fl as TT => ?_⟩
    · refine hO.keep fun b xs e => ?_
      have e1 := s1 _ _ e
      rw [upd_ne (ne_of e1 hx1 (by intro z; cases z))]
      exact e1
    have hx2 := TT.same _ _ (upd_same (H := H1) (a := x))
    have hflx : fl ≠ x := fun z => by
      have q1 := TT.fl0
      rw [z, upd_same] at q1
      cases q1
    have hasx : ∀ a ∈ as, a ≠ x := fun a ha z => by
      have q1 := TT.new a ha
      rw [z, upd_same] at q1
      cases q1
    refine ⟨_, rfl, x, C, dx, _, rfl, hx2, T.cl, T.nF, ?_, ?_⟩
    · show (putF "orders" _ (putF "houses" _ (putF "period" _ []))).length < 1000
      have : (putF "orders" (.ref t) (putF "houses" (.int (h : Int)) (putF "period" (.int (p : Int)) []))).length ≤ 3 := by
        show (putF "orders" (V.ref t) (if ("period" : Str) = "houses" then _ else _ : List (Str × V))).length ≤ 3
        rw [if_neg sHP]
        show (if ("period" : Str) = "orders" then _ else _ :: (if ("houses" : Str) = "orders" then _ else _) : List (Str × V)).length ≤ 3
        rw [if_neg sOP, if_neg sOH]
        exact Nat.le_refl _
      omega
    have free : ∀ b, b ≠ x → (L2.upd H1 x (.ins C dx (putF "orders" (.ref t) (putF "houses" (.int (h : Int)) (putF "period" (.int (p : Int)) []))))) b = none → H0 b = none := fun b nb e => by
      rw [upd_ne nb] at e
      exact s0.free (s1.free e)
    refine q _ (x :: fl :: as) (fun b o e => ?_) (fun b hb => ?_) ⟨dx, fl, as, rfl, upd_same, ?_, ?_, TT.len, fun i a hi => ?_⟩
    · have nb : b ≠ x := ne_of_none e x0
      rw [upd_ne nb]
      refine TT.same _ _ ?_
      rw [upd_ne nb]
      exact s1 _ _ (s0 _ _ e)
    · rcases List.mem_cons.mp hb with z | z
      · rw [z]; exact x0
      rcases List.mem_cons.mp z with z | z
      · rw [z]; exact free fl hflx TT.fl0
      · exact free b (hasx b z) (TT.new b z)
    · refine hO.keep fun b xs e => ?_
      have e1 := s1 _ _ e
      have nb : b ≠ x := ne_of e1 hx1 (by intro z; cases z)
      rw [upd_ne nb]
      refine TT.same _ _ ?_
      rw [upd_ne nb]
      exact e1
    · rw [upd_ne hflx]
      exact TT.flat
    · rw [upd_ne (hasx a (List.mem_of_getElem? hi))]
      exact TT.row i a hi
end
/-! ### the table, read -/
/-- where the table is read: followed[a][d % period] -/
theorem cell_read {C : Addr} {H : Hp} {x t : Addr} {p h a : Nat} {os : List Od} {F : List Addr} (N : NetAt C H x p h os t F) (ha : a < h) (hp : 0 < p) (d : Nat) : ∃ dx fl rows ro row, H x = some (.ins C dx (NetFs p h t fl)) ∧ H fl = some (.lst rows) ∧ rows[a]? = some (.ref ro) ∧ H ro = some (.lst row) ∧
    row[d % p]? = some (optV (idx p os a (d : Int))) := by
  obtain ⟨dx, fl, as, _, hx, _, hfl, hlen, hr⟩ := N
  have hal : a < as.length := by omega
  have e := List.getElem?_eq_getElem hal
  refine ⟨dx, fl, _, as[a], _, hx, hfl, by rw [List.getElem?_map, e]; rfl, hr a _ e, ?_⟩
  rw [List.getElem?_map, List.getElem?_range (Nat.mod_lt _ hp)]
  show some (optV (idx p os a ((d % p : Nat) : Int))) = _
  rw [idx_nat]
abbrev s_check_house : Stmt := top 13
abbrev N_check_house : List Str := ["net", "house"]
abbrev P_check_house : List Str := ["net", "house"]
theorem sc_check_house : FnScope N_check_house P_check_house (defScope s_check_house) := ⟨rfl, rfl, rfl, by decide +kernel, rfl, by decide +kernel, by decide +kernel⟩
abbrev s_check_day : Stmt := top 14
abbrev N_check_day : List Str := ["day"]
abbrev P_check_day : List Str := ["day"]
theorem sc_check_day : FnScope N_check_day P_check_day (defScope s_check_day) := ⟨rfl, rfl, rfl, by decide +kernel, rfl, by decide +kernel, by decide +kernel⟩
abbrev s_check_letter : Stmt := top 16
abbrev N_check_letter : List Str := ["net", "house", "day"]
abbrev P_check_letter : List Str := ["net", "house", "day"]
theorem sc_check_letter : FnScope N_check_letter P_check_letter (defScope s_check_letter) := ⟨rfl, rfl, rfl, by decide +kernel, rfl, by decide +kernel, by decide +kernel⟩
/-! ### letters: checks, the order followed, one hop, idle orders -/
def spHouse (C : Addr) : Sp := fun vs H Q _ => ∃ (x t : Addr) (p h a : Nat) (os : List Od) (F : List Addr), vs = [.ref x, .int a] ∧ NetAt C H x p h os t F ∧ a < h ∧ Q .non H
def spDay : Sp := fun vs H Q _ => ∃ (d : Nat), vs = [.int d] ∧ d ≤ 1000000000000000000 ∧ Q .non H
def spLetter (C : Addr) : Sp := fun vs H Q _ => ∃ (x t : Addr) (p h a d : Nat) (os : List Od) (F : List Addr), vs = [.ref x, .int a, .int d] ∧ NetAt C H x p h os t F ∧ a < h ∧ d ≤ 1000000000000000000 ∧ Q .non H
section
variable {P : Program} {w : World} {K : PySem.W.Frag} {mg : Str → Option Value} {base : Heap}
theorem ok_house {f C : Addr} {fd : FuncData} (F : Fun K "check_house" "check_house" s_check_house f fd) (T : NetT K C) (DW : Df P w K mg base "is_within" 2 P_is_within (spWithin K)) : FnOk P w K mg base CX0 3 f fd P_check_house (spHouse C) := by
  obtain ⟨fW, fdW, gW, kW, bW, GW⟩ := DW
  refine F.ok sc_check_house (fun vs H Q E h => ?_) (fun cdv A outer s H vs Q E hr h => ?_)
  · obtain ⟨x, t, p, h, a, os, F, rfl, _⟩ := h
    rfl
  · obtain ⟨x, t, p, h, a, os, F, rfl, ⟨dx, fl, as, _, hx, _⟩, ha, q⟩ := h
    refine ⟨_, pss_one (ps_if (pt_not (pt_val (pe_call GW hr (by rfl) gW kW bW .nil pass0 (pa_cons (pv 1) (pa_cons pe_int (pa_cons (pe_op op_sub (pe_fld (pv 0) rfl) pe_int) pa_nil)))))) (pss_one ps_never) pss_nil), ?_⟩
    have w1 : withinB (.int a) 0 ((h : Int) - 1) = true := by
      rw [show ((h : Int) - 1) = ((h - 1 : Nat) : Int) by omega]
      exact within_nat (lo := 0) (Nat.zero_le _) (by omega)
    refine ⟨_, rfl, _, rfl, x, C, dx, _, _, rfl, hx, T.cl, T.nH, nf_ho, _, _, rfl, rfl, .int a, 0, (h : Int) - 1, rfl, .int, _, rfl, ?_⟩
    rw [w1]
    exact iteF q
theorem ok_day {f : Addr} {fd : FuncData} (F : Fun K "check_day" "check_day" s_check_day f fd) (DW : Df P w K mg base "is_within" 2 P_is_within (spWithin K)) (hL : ∃ t, mg "LAST_DAY" = some (.int 1000000000000000000 t)) : FnOk P w K mg base CX0 3 f fd P_check_day spDay := by
  obtain ⟨fW, fdW, gW, kW, bW, GW⟩ := DW
  obtain ⟨tkL, hL⟩ := hL
  refine F.ok sc_check_day (fun vs H Q E h => ?_) (fun cdv A outer s H vs Q E hr h => ?_)
  · obtain ⟨d, rfl, _⟩ := h
    rfl
  · obtain ⟨d, rfl, hd, q⟩ := h
    refine ⟨_, pss_one (ps_if (pt_not (pt_val (pe_call GW hr (by rfl) gW kW bW .nil pass0 (pa_cons (pv 0) (pa_cons pe_int (pa_cons (pe_glob (v := .int 1000000000000000000) rfl hL ⟨_, rfl⟩) pa_nil)))))) (pss_one ps_never) pss_nil), ?_⟩
    have w1 : withinB (.int d) 0 1000000000000000000 = true := within_nat (lo := 0) (hi := 1000000000000000000) (Nat.zero_le _) hd
    refine ⟨_, rfl, .int d, 0, 1000000000000000000, rfl, .int, _, rfl, ?_⟩
    rw [w1]
    exact iteF q
theorem ok_letter {f C : Addr} {fd : FuncData} (F : Fun K "check_letter" "check_letter" s_check_letter f fd) (DH : Df P w K mg base "check_house" 3 P_check_house (spHouse C)) (DD : Df P w K mg base "check_day" 3 P_check_day spDay) : FnOk P w K mg base CX0 4 f fd P_check_letter (spLetter C) := by
  obtain ⟨fH, fdH, gH, kH, bH, GH⟩ := DH
  obtain ⟨fD, fdD, gD, kD, bD, GD⟩ := DD
  refine F.ok sc_check_letter (fun vs H Q E h => ?_) (fun cdv A outer s H vs Q E hr h => ?_)
  · obtain ⟨x, t, p, h, a, d, os, F, rfl, _⟩ := h
    rfl
  · obtain ⟨x, t, p, h, a, d, os, F, rfl, N, ha, hd, q⟩ := h
    refine ⟨_, pss_cons (ps_expr (pe_call GH hr (by rfl) gH kH bH .nil pass0 (pa_cons (pv 0) (pa_cons (pv 1) pa_nil)))) (pss_one (ps_expr (pe_call GD hr (by rfl) gD kD bD .nil pass0 (pa_cons (pv 2) pa_nil)))), ?_⟩
    exact ⟨_, rfl, _, rfl, x, t, p, h, a, os, F, rfl, N, ha, _, rfl, d, rfl, hd, q⟩
end
abbrev s_Net_stop_after : Stmt := inClass (top 35) 2
abbrev N_Net_stop_after : List Str := ["self", "house", "day", "index", "source", "target", "first", "days", "delay"]
abbrev P_Net_stop_after : List Str := ["self", "house", "day"]
theorem sc_Net_stop_after : FnScope N_Net_stop_after P_Net_stop_after (defScope s_Net_stop_after) := ⟨rfl, rfl, rfl, by decide +kernel, rfl, by decide +kernel, by decide +kernel⟩
section
variable {P : Program} {w : World} {K : PySem.W.Frag} {mg : Str → Option Value} {base : Heap}
/-- a stop, or None -/
def StopV (H H' : Hp) (v : V) : Option (Nat × Nat) → Prop
  | none => v = .non
  | some s => ∃ u, v = .ref u ∧ H u = none ∧ H' u = some (.tup [.int s.1, .int s.2])
def spStop (C : Addr) : Sp := fun vs H Q _ => ∃ (x t : Addr) (p h a d : Nat) (os : List Od) (F : List Addr), vs = [.ref x, .int a, .int d] ∧ NetAt C H x p h os t F ∧ 0 < p ∧ a < h ∧
  ∀ H' v, Same H H' → StopV H H' v (hop p os (a, d)) → Q v H'
theorem ok_stop_after {f C : Addr} {fd : FuncData} (F : Fun K "stop_after" "Net.stop_after" s_Net_stop_after f fd) (T : NetT K C) : FnOk P w K mg base CX0 2 f fd P_Net_stop_after (spStop C) := by
  refine F.ok sc_Net_stop_after (fun vs H Q E h => ?_) (fun cdv A outer s H vs Q E hr h => ?_)
  · obtain ⟨x, t, p, h, a, d, os, F, rfl, _⟩ := h
    rfl
  · obtain ⟨x, t, p, h, a, d, os, F, rfl, N, hp, ha, q⟩ := h
    refine ⟨_, pss_cons (ps_set (i := 3) sc_Net_stop_after.nd rfl (.inl rfl) (pe_ix ix_list (pe_ix ix_list (pe_fld (pv 0) rfl) (pv 1) (fun _ _ => rfl)) (pe_op op_modN (pv 2) (pe_fld (pv 0) rfl)) (fun _ _ => rfl)))
      (pss_cons (ps_if (pt_cmpR op_isN (pv 3) pe_non (nomark _)) (pss_one (ps_ret pe_non)) pss_nil)
      (pss_cons (ps_asg (pe_ix ix_tup (pe_fld (pv 0) rfl) (pv 3) (fun _ _ => rfl)) (pg_tup (by rfl) (pgs_cons (pg_name (i := 4) sc_Net_stop_after.nd rfl (.inl rfl)) (pgs_cons (pg_name (i := 5) sc_Net_stop_after.nd rfl (.inl rfl)) (pgs_cons (pg_name (i := 6) sc_Net_stop_after.nd rfl (.inl rfl))
        (pgs_cons (pg_name (i := 7) sc_Net_stop_after.nd rfl (.inl rfl)) (pgs_cons (pg_name (i := 8) sc_Net_stop_after.nd rfl (.inl rfl)) pgs_nil)))))))
      (pss_one (ps_ret (pe_tup (pa_cons (pv 5) (pa_cons (pe_op op_add (pv 2) (pv 8)) pa_nil))))))), ?_⟩
    obtain ⟨dx, fl, rows, ro, row, hx, hfl, hrows, hro, hrow⟩ := cell_read N ha hp d
    obtain ⟨_, _, _, _, hx', ⟨ts, ht, hP⟩, _⟩ := N
    refine ⟨_, rfl, x, C, dx, _, _, rfl, hx, T.cl, T.nF, nf_fl, _, rfl, fl, _, _, _, rfl, rfl, SqL.of hfl, atI_nat hrows, ?_⟩
    refine ⟨_, rfl, _, rfl, x, C, dx, _, _, rfl, hx, T.cl, T.nP, nf_pe, _, _, rfl, rfl, by omega, ?_⟩
    refine ⟨ro, _, ((d % p : Nat) : Int), _, rfl, ?_, SqL.of hro, atI_nat hrow, ?_⟩
    · show V.int ((d : Int).fmod (p : Int)) = _
      rw [fmod_nat]
    refine ⟨_, rfl, rfl, _, rfl, ?_⟩
    unfold hop at q
    cases e : idx p os a (d : Int) with
    | none =>
      simp only [e] at q
      exact iteT (q H .non (.refl H) rfl)
    | some k =>
      simp only [e] at q
      have hk := idx_lt e
      have hko := List.getElem?_eq_getElem hk
      obtain ⟨v, hv, u, rfl, hu⟩ := Paired.get? (i := k) hP hko
      rw [hko] at q
      generalize os[k] = o at q hu
      refine iteF ⟨_, rfl, x, C, dx, _, _, rfl, hx, T.cl, T.nO, nf_or, _, rfl, t, ts, _, _, rfl, rfl, SqT.of ht, atI_nat hv, ?_⟩
      refine ⟨u, _, rfl, SqT.of hu, rfl, _, _, rfl, _, _, rfl, _, _, rfl, _, _, rfl, _, _, rfl, rfl, ?_⟩
      refine ⟨_, rfl, _, rfl, _, rfl, _, _, rfl, rfl, (by show 2 ≤ sizeLine; decide), fun y ny => ?_⟩
      refine q _ _ (same_upd ny) ⟨y, rfl, ny, ?_⟩
      rw [upd_same]
      show some (HO.tup [V.int o.t, V.int ((d : Int) + (o.e : Int))]) = some (HO.tup [V.int o.t, V.int ((d + o.e : Nat) : Int)])
      rw [Int.natCast_add]
end
abbrev s_Net_idle_orders : Stmt := inClass (top 35) 4
abbrev N_Net_idle_orders : List Str := ["self", "used", "days", "index"]
abbrev P_Net_idle_orders : List Str := ["self"]
theorem sc_Net_idle_orders : FnScope N_Net_idle_orders P_Net_idle_orders (defScope s_Net_idle_orders) := ⟨rfl, rfl, rfl, by decide +kernel, rfl, by decide +kernel, by decide +kernel⟩
/-! ### idle orders -/
theorem set3 {α : Type} (l : List α) {x y : Nat} (v n m : α) (h : x ≠ y) : ((l.set x v).set y n).set x m = (l.set y n).set x m := by
  rw [List.set_comm v n h, List.set_set]
theorem lc2_rows {K : PySem.W.Frag} {a D : Addr} {rows : List Addr} {rs : List (List V)} {σ : L2.St} {H1 : Hp} {x y : Nat} {Q : Hp → Prop} (hl : H1 a = some (.lst (rows.map V.ref))) (hlen : rows.length = rs.length) (hr : ∀ (i : Nat) (b : Addr) (r : List V), (rows[i]? : Option Addr) = some b → (rs[i]? : Option (List V)) = some r → H1 b = some (.lst r)) (nD : H1 D = none)
    (hx : x < σ.length) (hy : y < σ.length) (hxy : x ≠ y) (sz : rs.flatten.length < sizeLine) (hQ : Q (upd H1 D (.lst rs.flatten))) :
    ∃ W : Nat → Nat → Hp → Prop, (∃ m, W 0 m (upd H1 D (.lst []))) ∧ ∀ i m H, W i m H →
      ((Itl K a).stop i H ∧ Q H) ∨ ((Itl K a).go i H ∧ ∃ Nx : Hp → Prop, (∀ H', Nx H' → ∃ m', m' < m ∧ W (i + 1) m' H') ∧ ∀ v H', (Itl K a).yld i H v H' → gName x v (wipe σ [x, y]) H' fun σ2 H2 => wipe σ2 [x, y] = wipe σ [x, y] ∧ tYes σ2 H2 fun b H3 =>
        if b = true then iList K (tVar x) σ2 H3 fun J1 H4 => ∃ W1 : Nat → Nat → Hp → Prop, (∃ m, W1 0 m H4) ∧ ∀ j k H, W1 j k H →
          (J1.stop j H ∧ Nx H) ∨ (J1.go j H ∧ ∃ Nx1 : Hp → Prop, (∀ H', Nx1 H' → ∃ k', k' < k ∧ W1 (j + 1) k' H') ∧ ∀ v H', J1.yld j H v H' → gName y v (wipe σ2 [y]) H' fun σ3 H5 => wipe σ3 [y] = wipe σ2 [y] ∧ tYes σ3 H5 fun b H6 =>
            if b = true then tVar y σ3 H6 fun z H7 => ∃ acc, H7 D = some (.lst acc) ∧ acc.length < sizeLine ∧ Nx1 (upd H7 D (.lst (acc ++ [z]))) else Nx1 H6)
        else Nx H3) := by
  have naD : a ≠ D := ne_of_none hl nD
  have hwl : (wipe σ [x, y]).length = σ.length := wipe_length σ _
  refine ⟨fun i m H => m = rows.length - i ∧ i ≤ rows.length ∧ H = upd H1 D (.lst (rs.take i).flatten), ⟨rows.length, rfl, Nat.zero_le _, rfl⟩, ?_⟩
  rintro i m H ⟨rfl, hi, rfl⟩
  have ha : (upd H1 D (.lst (rs.take i).flatten)) a = some (.lst (rows.map V.ref)) := by rw [upd_ne naD]; exact hl
  by_cases lt : i < rows.length
  · have eb := List.getElem?_eq_getElem lt
    have er := List.getElem?_eq_getElem (show i < rs.length by omega)
    generalize rows[i] = b at eb
    generalize hrr : rs[i]'(by omega) = r at er
    have hbr := hr i b r eb er
    have nbD : b ≠ D := ne_of_none hbr nD
    have em : (rows.map V.ref)[i]? = some (.ref b) := by rw [List.getElem?_map, eb]; rfl
    have etake : (rs.take (i + 1)).flatten = (rs.take i).flatten ++ r := by
      rw [List.take_add_one, er, Option.toList_some, List.flatten_append]
      simp
    have hle : ((rs.take i).flatten ++ r).length ≤ rs.flatten.length := by
      rw [← etake]
      have e : rs.flatten = (rs.take (i + 1)).flatten ++ (rs.drop (i + 1)).flatten := by rw [← List.flatten_append, List.take_append_drop]
      rw [e, List.length_append]
      exact Nat.le_add_right _ _
    refine .inr ⟨⟨_, _, SqL.of ha, em⟩, fun H' => H' = upd H1 D (.lst (rs.take (i + 1)).flatten), fun H' e => ⟨rows.length - (i + 1), by omega, rfl, lt, e⟩, fun v H' hy' => ?_⟩
    obtain ⟨rfl, fv⟩ := hy'
    obtain rfl : v = .ref b := Option.some.inj ((fv _ (SqL.of ha)).symm.trans em)
    refine ⟨?_, ?_⟩
    · show wipe ((wipe σ [x, y]).set x _) [x, y] = wipe σ [x, y]
      show ((((wipe σ [x, y]).set x _).set y none).set x none) = (σ.set y none).set x none
      show (((((σ.set y none).set x none).set x _).set y none).set x none) = (σ.set y none).set x none
      rw [List.set_set, set3 _ _ _ _ hxy, List.set_set]
    · have hb2 : (upd H1 D (.lst (rs.take i).flatten)) b = some (.lst r) := by rw [upd_ne nbD]; exact hbr
      refine ⟨.ref b, ?_, b, rfl, ⟨_, SqL.of hb2⟩, ?_⟩
      · rw [List.getElem?_set_self (by omega)]
      refine ⟨fun j k H => k = r.length - j ∧ j ≤ r.length ∧ H = upd H1 D (.lst ((rs.take i).flatten ++ r.take j)), ⟨r.length, rfl, Nat.zero_le _, by rw [List.take_zero, List.append_nil]⟩, ?_⟩
      rintro j k H ⟨rfl, hj, rfl⟩
      have hb3 : (upd H1 D (.lst ((rs.take i).flatten ++ r.take j))) b = some (.lst r) := by rw [upd_ne nbD]; exact hbr
      by_cases lj : j < r.length
      · have ej := List.getElem?_eq_getElem lj
        refine .inr ⟨⟨_, _, SqL.of hb3, ej⟩, fun H' => H' = upd H1 D (.lst ((rs.take i).flatten ++ r.take (j + 1))), fun H' e => ⟨r.length - (j + 1), by omega, rfl, lj, e⟩, fun v H' hy' => ?_⟩
        obtain ⟨rfl, fv⟩ := hy'
        have ev : v = r[j] := Option.some.inj ((fv _ (SqL.of hb3)).symm.trans ej)
        subst ev
        refine ⟨?_, ?_⟩
        · show ((wipe ((wipe σ [x, y]).set x _) [y]).set y _).set y none = _
          rw [List.set_set]
          show ((((wipe σ [x, y]).set x _).set y none).set y none) = (((wipe σ [x, y]).set x _).set y none)
          rw [List.set_set]
        · refine ⟨r[j], ?_, _, upd_same, ?_, ?_⟩
          · rw [List.getElem?_set_self (by simp only [wipe_length, List.length_set]; exact hy)]
          · rw [List.length_append, List.length_take]
            rw [List.length_append] at hle
            omega
          · rw [upd_upd, List.append_assoc, List.take_add_one, ej]
            rfl
      · refine .inl ⟨⟨_, SqL.of hb3, by omega⟩, ?_⟩
        show _ = upd H1 D (.lst (rs.take (i + 1)).flatten)
        rw [show r.take j = r from List.take_of_length_le (by omega), etake]
  · refine .inl ⟨⟨_, SqL.of ha, by rw [List.length_map]; omega⟩, ?_⟩
    rw [List.take_of_length_le (by omega)]
    exact hQ
/-- the numbers of the orders that are followed on some day, in the order of houses and days -/
def usedL (p h : Nat) (os : List Od) : List V := ((List.range h).map fun a => (List.range p).map (cellV p os a)).flatten
def idleL (p h : Nat) (os : List Od) : List Nat := (List.range os.length).filter fun k => !inV (.int (k : Nat)) (usedL p h os)
theorem usedL_len (p h : Nat) (os : List Od) : (usedL p h os).length = h * p := by
  unfold usedL
  rw [List.length_flatten, List.map_map]
  have e : (List.length ∘ fun a => (List.range p).map (cellV p os a)) = fun _ => p := by
    funext a
    simp
  rw [e, List.map_const', List.length_range, List.sum_replicate_nat]
theorem usedL_flat (p h : Nat) (os : List Od) : (usedL p h os).all flatV = true := by
  rw [List.all_eq_true]
  intro v hv
  unfold usedL at hv
  rw [List.mem_flatten] at hv
  obtain ⟨l, hl, hv⟩ := hv
  obtain ⟨a, _, rfl⟩ := List.mem_map.mp hl
  obtain ⟨d, _, rfl⟩ := List.mem_map.mp hv
  unfold cellV
  cases idx p os a (d : Int) <;> rfl
def spIdle (C : Addr) : Sp := fun vs H Q _ => ∃ (x t : Addr) (p h : Nat) (os : List Od) (F : List Addr), vs = [.ref x] ∧ NetAt C H x p h os t F ∧ NetOk p h os ∧
  ∀ H' l, Same H H' → H l = none → H' l = some (.lst (nints (idleL p h os))) → Q (.ref l) H'
section
variable {P : Program} {w : World} {K : PySem.W.Frag} {mg : Str → Option Value} {base : Heap}
theorem ok_idle {f C : Addr} {fd : FuncData} (F : Fun K "idle_orders" "Net.idle_orders" s_Net_idle_orders f fd) (T : NetT K C) (B : Blt mg) : FnOk P w K mg base CX0 2 f fd P_Net_idle_orders (spIdle C) := by
  refine F.ok sc_Net_idle_orders (fun vs H Q E h => ?_) (fun cdv A outer s H vs Q E hr h => ?_)
  · obtain ⟨x, t, p, h, os, F, rfl, _⟩ := h
    rfl
  · obtain ⟨x, t, p, h, os, F, rfl, N, ok, q⟩ := h
    obtain ⟨dx, fl, as, _, hx, ⟨ts, ht, hP⟩, hfl, hlen, hrow⟩ := id N
    have p30 := ok.p30; have h10 := ok.h10; have ol := ok.len
    refine ⟨_, pss_cons (ps_set (i := 1) sc_Net_idle_orders.nd rfl (.inr rfl) (pe_lc2 (own := [("days", 2), ("index", 3)]) (vs1 := [3]) (g := gName 2) (g1 := gName 3) (tt := tYes) (tt1 := tYes) (wi1 := iList K (tVar 2)) (by rfl) sc_Net_idle_orders.nd (pi_list (pe_fld (pv 0) rfl))
          (blkOk_by (N := N_Net_idle_orders) (sc := defScope s_Net_idle_orders) (by decide +kernel)) (by intro i hi; simp at hi; simp [hi]) (fun _ _ _ _ _ => pg_name (i := 2) sc_Net_idle_orders.nd rfl (.inl rfl)) (fun _ _ _ _ _ => pts_nil)
          (fun _ _ _ _ _ => pi_list (pv 2)) (fun _ _ _ _ _ => pg_name (i := 3) sc_Net_idle_orders.nd rfl (.inl rfl)) (fun _ _ _ _ _ => pts_nil) (fun _ _ _ _ _ => pv 3)))
      (pss_one (ps_ret (pe_lc (own := [("index", 3)]) (g := gName 3) (tt := tTest (tOp (rIn K true) (tVar 3) (tVar 1))) (by rfl) sc_Net_idle_orders.nd (pi_range1 rfl B.range (pa_cons (pe_callB call_len_seq (by rfl) B.len PySem.boot_len (pa_cons (pe_fld (pv 0) rfl) pa_nil)) pa_nil))
          (blkOk_by (N := N_Net_idle_orders) (sc := defScope s_Net_idle_orders) (by decide +kernel)) (fun _ _ _ _ _ => pg_name (i := 3) sc_Net_idle_orders.nd rfl (.inl rfl))
          (fun _ _ _ _ _ => pts_one (pt_cmpR op_notIn_seq (pv 3) (pv 1) rfl)) (fun _ _ _ _ _ => pv 3)))), ?_⟩
    have small : (usedL p h os).length ≤ 300 := by
      rw [usedL_len]
      exact Nat.le_trans (Nat.mul_le_mul h10 p30) (by decide)
    refine ⟨_, rfl, x, C, dx, _, _, rfl, hx, T.cl, T.nF, nf_fl, fl, rfl, ⟨_, SqL.of hfl⟩, fun D nD => ?_⟩
    refine lc2_rows (K := K) (a := fl) (rows := as) (rs := (List.range h).map fun a => (List.range p).map (cellV p os a)) (σ := [some (.ref x), none, none, none]) (x := 2) (y := 3) hfl (by rw [hlen]; simp) (fun i b r e1 e2 => ?_) nD (by show 2 < 4; decide) (by show 3 < 4; decide) (by decide)
      (small1000 (by show (usedL p h os).length ≤ 1000; omega)) ?_
    · have hi : i < h := by
        have := (List.getElem?_eq_some_iff.mp e1).1
        omega
      rw [List.getElem?_map, List.getElem?_range hi] at e2
      rw [← Option.some.inj e2]
      exact hrow i b e1
    · have s1 := same_upd (o := HO.lst (usedL p h os)) nD
      have hx1 := s1 _ _ hx
      have ht1 := s1 _ _ ht
      refine ⟨_, rfl, x, C, dx, _, _, rfl, hx1, T.cl, T.nO, nf_or, t, ts, rfl, .inr (SqT.of ht1), ts.length, rfl, ?_, ?_, fun l nl => ?_⟩
      · omega
      · rw [hP.length]
        omega
      have nDl : D ≠ l := ne_of_none upd_same nl
      refine lc_range (lo := 0) (n := ((ts.length : Nat) : Int).toNat) (fun i H' => H' = upd (upd H D (.lst (usedL p h os))) l (.lst (nints ((List.range i).filter fun k => !inV (.int (k : Nat)) (usedL p h os))))) rfl ?_ ?_
      · rintro i H' hi rfl
        refine ⟨rfl, _, rfl, _, rfl, D, _, rfl, .inl (SqL.of ((upd_ne nDl).trans upd_same)), rfl, usedL_flat p h os, _, rfl, ?_⟩
        show if (!inV (V.int (0 + (i : Int))) (usedL p h os)) = true then _ else _
        rw [Int.zero_add]
        refine ite2 (fun e => ?_) (fun e => ?_)
        · refine ⟨_, rfl, _, upd_same, ?_, ?_⟩
          · unfold nints
            rw [List.length_map]
            exact small1000 (Nat.le_trans (List.length_filter_le _ _) (by rw [List.length_range]; rw [hP.length] at hi; omega))
          · rw [upd_upd, filter_range_succ', if_pos e]
            unfold nints
            rw [List.map_append]
            rfl
        · rw [filter_range_succ', if_neg e, List.append_nil]
      · rintro H' rfl
        refine q _ l (s1.trans (same_upd nl)) (s1.free nl) ?_
        rw [upd_same]
        unfold idleL
        rw [Int.toNat_natCast, hP.length]
end
/-! ### stops and what is still to come: plain -/
def StopAt (H : Hp) (v : V) (s : Nat × Nat) : Prop := ∃ u, v = .ref u ∧ H u = some (.tup [.int s.1, .int s.2])
theorem StopAt.keep {H H' : Hp} {v : V} {s : Nat × Nat} (k : TupKeep H H') (h : StopAt H v s) : StopAt H' v s := by
  obtain ⟨u, e, hu⟩ := h
  exact ⟨u, e, k _ _ hu⟩
theorem StopsAt.keep {H H' : Hp} {vs : List V} {l : List (Nat × Nat)} (k : TupKeep H H') (h : Paired (StopAt H) vs l) : Paired (StopAt H') vs l := Paired.mapP h fun _ _ q => q.keep k
/-- what is still to come from a stop (or none) -/
def rest (p : Nat) (os : List Od) (n : Nat) : Option (Nat × Nat) → List (Nat × Nat)
  | none => []
  | some s => way p os n s
theorem rest_succ (p : Nat) (os : List Od) (n : Nat) (s : Nat × Nat) : rest p os (n + 1) (some s) = s :: rest p os n (hop p os s) := by
  show way p os (n + 1) s = _
  unfold way
  cases hop p os s <;> rfl
theorem rest_zero (p : Nat) (os : List Od) (o : Option (Nat × Nat)) : rest p os 0 o = [] := by cases o <;> rfl
theorem hop_house {p h : Nat} {os : List Od} {s s' : Nat × Nat} (k : NetOk p h os) (e : hop p os s = some s') : s'.1 < h := by
  unfold hop at e
  cases q : idx p os s.1 (s.2 : Int) with
  | none =>
    rw [q] at e
    cases e
  | some j =>
    simp only [q] at e
    have hj := idx_lt q
    rw [List.getElem?_eq_getElem hj] at e
    rw [← Option.some.inj e]
    exact (k.ok _ (List.getElem_mem hj)).t
/-! ### ways: plain -/
theorem way_len (p : Nat) (os : List Od) : ∀ (n : Nat) (st : Nat × Nat), (way p os n st).length ≤ n
  | 0, _ => Nat.le_refl _
  | n + 1, st => by
    show (way p os (n + 1) st).length ≤ n + 1
    rw [show way p os (n + 1) st = rest p os (n + 1) (some st) from rfl, rest_succ]
    cases h : hop p os st with
    | none => exact Nat.succ_le_succ (Nat.zero_le _)
    | some s' => exact Nat.succ_le_succ (way_len p os n s')
theorem way_house {p h : Nat} {os : List Od} (k : NetOk p h os) : ∀ {n : Nat} {st : Nat × Nat}, st.1 < h → ∀ s ∈ way p os n st, s.1 < h
  | 0, _, _, _, hm => by cases hm
  | n + 1, st, h0, s, hm => by
    rw [show way p os (n + 1) st = rest p os (n + 1) (some st) from rfl, rest_succ] at hm
    rcases List.mem_cons.mp hm with e | hm
    · rw [e]; exact h0
    · cases q : hop p os st with
      | none => rw [q] at hm; cases hm
      | some s' =>
        rw [q] at hm
        exact way_house k (hop_house k q) s hm
/-- the i-th stop, by going on from it -/
theorem way_drop {p : Nat} {os : List Od} : ∀ {n i : Nat} {st s : Nat × Nat}, (way p os n st)[i]? = some s → (way p os n st).drop i = way p os (n - i) s
  | 0, _, _, _, h => by cases h
  | n + 1, 0, st, s, h => by
    have e : st = s := Option.some.inj h
    subst e
    rfl
  | n + 1, i + 1, st, s, h => by
    have e : way p os (n + 1) st = st :: rest p os n (hop p os st) := rest_succ p os n st
    rw [e] at h ⊢
    rw [List.getElem?_cons_succ] at h
    rw [List.drop_succ_cons, Nat.succ_sub_succ]
    cases q : hop p os st with
    | none => rw [q] at h; cases h
    | some s' =>
      rw [q] at h
      exact way_drop h
abbrev s_Net_route : Stmt := inClass (top 35) 3
abbrev N_Net_route : List Str := ["self", "house", "day", "limit", "stop", "count"]
abbrev P_Net_route : List Str := ["self", "house", "day", "limit"]
/-! ### the first stops of a letter -/
theorem gsc_route : GScope N_Net_route P_Net_route (defScope s_Net_route) := ⟨rfl, rfl, rfl, by decide +kernel, rfl, by decide +kernel, by decide +kernel⟩
def spRoute (C : Addr) : SpG := fun vs H cont _ => ∃ (x t : Addr) (p h a d lim : Nat) (os : List Od) (F : List Addr), vs = [.ref x, .int a, .int d, .int lim] ∧ NetAt C H x p h os t F ∧ NetOk p h os ∧ a < h ∧ d ≤ 1000000000000000000 ∧ lim ≤ 1000 ∧
  ∀ ys H', Same H H' → Paired (StopAt H') ys (way p os lim (a, d)) → cont ys H'
section
variable {P : Program} {w : World} {K : PySem.W.Frag} {mg : Str → Option Value} {base : Heap}
theorem ok_route {f C fS : Addr} {fd fdS : FuncData} (F : Fun K "route" "Net.route" s_Net_route f fd) (T : NetT K C) (DL : Df P w K mg base "check_letter" 4 P_check_letter (spLetter C)) (GS : FnOk P w K mg base CX0 2 fS fdS P_Net_stop_after (spStop C)) (mS : Meth K C "stop_after" fS) (bS : Binds K fdS P_Net_stop_after []) :
    GFn P w K mg base 5 f fd P_Net_route (spRoute C) := by
  obtain ⟨fL, fdL, gL, kL, bL, GL⟩ := DL
  obtain ⟨oc, od, kV, doc, pm, an, cdv, ct, osl, rfl, lk, hcd⟩ := F.ex
  refine gfn_of lk hcd gsc_route (fun vs H Q E h => ?_) (fun A outer s H vs cont E pn hr h => ?_)
  · obtain ⟨x, t, p, h, a, d, lim, os, F, rfl, _⟩ := h
    rfl
  · obtain ⟨x, t, p, h, a, d, lim, os, F, rfl, N, ok, ha, hd, hlim, q⟩ := h
    have hr1 : Room 2 _ := hr.mono (by decide)
    refine ⟨_, gss_cons (gs_ps (ps_expr (pe_call GL hr (by rfl) gL kL bL .nil pass0 (pa_cons (pv 0) (pa_cons (pv 1) (pa_cons (pv 2) pa_nil))))))
      (gss_cons (gs_ps (ps_set (i := 4) gsc_route.nd rfl (.inl rfl) (pe_tup (pa_cons (pv 1) (pa_cons (pv 2) pa_nil)))))
      (gss_cons (gs_ps (ps_set (i := 5) gsc_route.nd rfl (.inl rfl) pe_int))
      (gss_cons (gs_while owns_gcx (PW.pt (pw_and (pt_cmpR op_notN (pv 4) pe_non (nomark _)) (pw_and1 (pt_cmpR op_lt (pv 5) (pv 3) (nomark _)))))
        (gss_cons (gs_yield (pv 4)) (gss_cons (gs_ps (ps_aug (i := 5) gsc_route.nd rfl (.inl rfl) pe_int ip_add))
        (gss_cons (gs_ps (ps_set (i := 4) gsc_route.nd rfl (.inl rfl) (pe_meth (pv 0) T.cl mS GS hr1 bS .nil pass0 (pa_cons (pe_ix ix_tup (pv 4) pe_int (fun _ _ => rfl)) (pa_cons (pe_ix ix_tup (pv 4) pe_int (fun _ _ => rfl)) pa_nil))))) gss_nil)))) gss_nil))), ?_⟩
    have hp : 0 < p := ok.p1
    refine ⟨_, rfl, _, rfl, _, rfl, x, t, p, h, a, d, os, F, rfl, N, ha, hd, ?_⟩
    refine ⟨_, rfl, _, rfl, (by show 2 ≤ sizeLine; decide), fun u nu => ?_⟩
    refine ⟨fun m ys σ H' => ∃ (c : Nat) (v : V) (cur : Option (Nat × Nat)) (l : List (Nat × Nat)), σ = [some (.ref x), some (.int a), some (.int d), some (.int lim), some v, some (.int c)] ∧ c + m = lim ∧ ys.length = c ∧ Same H H' ∧ Paired (StopAt H') ys l ∧
        l ++ rest p os m cur = way p os lim (a, d) ∧ (∀ s, cur = some s → s.1 < h ∧ StopAt H' v s) ∧ (cur = none → v = .non),
      ⟨lim, 0, .ref u, some (a, d), [], rfl, by omega, rfl, same_upd nu, .nil, rfl, fun s e => ?_, fun e => by cases e⟩, ?_⟩
    · cases e
      exact ⟨ha, u, rfl, upd_same⟩
    · rintro m ys σ H1 ⟨c, v, cur, l, rfl, hcm, hyl, s1, hP, hl, hcur, hnone⟩
      refine ⟨_, rfl, rfl, _, rfl, ?_⟩
      cases cur with
      | none =>
        rw [hnone rfl]
        show cont ys H1
        refine q ys H1 s1 ?_
        have e : l = way p os lim (a, d) := by
          rw [← hl]
          exact (List.append_nil l).symm
        rw [← e]
        exact hP
      | some s =>
        obtain ⟨hs, u1, rfl, hu1⟩ := hcur s rfl
        refine iteT ⟨_, rfl, _, rfl, _, _, rfl, rfl, _, rfl, ite2 (fun e => ?_) (fun e => ?_)⟩
        · have lt : (c : Int) < lim := of_decide_eq_true e
          obtain ⟨m, rfl⟩ : ∃ m', m = m' + 1 := ⟨m - 1, by omega⟩
          have N1 := N.same s1
          refine ⟨fun ys' σ' H' => ∃ (v : V), ys' = ys ++ [.ref u1] ∧ σ' = [some (.ref x), some (.int a), some (.int d), some (.int lim), some v, some (.int ((c : Int) + 1))] ∧ Same H1 H' ∧ StopV H1 H' v (hop p os s), ?_, ?_⟩
          · rintro ys' σ' H2 ⟨v, rfl, rfl, s2, hv⟩
            refine ⟨m, Nat.lt_succ_self _, c + 1, v, hop p os s, l ++ [s], rfl, by omega, by rw [List.length_append, hyl]; rfl, s1.trans s2, ?_, ?_, fun s' e' => ?_, fun e' => ?_⟩
            · exact Paired.snoc (StopsAt.keep (tk_of s2) hP) ⟨u1, rfl, s2 _ _ hu1⟩
            · rw [List.append_assoc, ← hl, rest_succ]
              rfl
            · rw [e'] at hv
              obtain ⟨y, e1, _, e2⟩ := hv
              exact ⟨hop_house ok e', y, e1, e2⟩
            · rw [e'] at hv
              exact hv
          · refine ⟨Nat.lt_of_le_of_lt (by omega : ys.length ≤ 1000) (small1000 (Nat.le_refl _)), _, rfl, ?_⟩
            refine ⟨_, rfl, _, _, rfl, rfl, ?_⟩
            obtain ⟨dx, fl, as, e0, hx, rest⟩ := id N1
            refine ⟨_, rfl, x, dx, _, rfl, hx, nf_no (by decide +kernel) (by decide +kernel) (by decide +kernel) (by decide +kernel), _, rfl, u1, _, 0, _, rfl, rfl, SqT.of hu1, atI_nat (j := 0) rfl, _, rfl, u1, _, 1, _, rfl, rfl, SqT.of hu1, atI_nat (j := 1) rfl, ?_⟩
            exact ⟨x, t, p, h, s.1, s.2, os, F, rfl, N1, hp, hs, fun H2 v s2 hv => ⟨v, rfl, rfl, s2, hv⟩⟩
        · have hm0 : m = 0 := by
            have q1 : ¬ (c : Int) < lim := fun z => e (decide_eq_true z)
            omega
          subst hm0
          show cont ys H1
          refine q ys H1 s1 ?_
          rw [rest_zero, List.append_nil] at hl
          rw [← hl]
          exact hP
end
/-! ### readings that leave the generators alone (for the body of a for over a generator) -/
section
open PyProof.Rows
abbrev EPg (X : Cx) (G : Array GenState) (pins : List (Addr × Obj)) (σ : L2.St) (Q : VK) : Value → Shared → Prop := fun v s' => (∃ x H', Inv X pins σ H' s' ∧ RelV x v ∧ Q x H') ∧ s'.gens = G
structure PEg (X : Cx) (e : Expr) (te : TE) : Prop where
  run : ∀ (G : Array GenState) (pins : List (Addr × Obj)) (s : Shared) (σ : L2.St) (H : Hp) (Q : VK), Inv X pins σ H s → s.gens = G → te σ H Q → wpAny (model X.prog X.w) X.A (eval e X.env) (EPg X G pins σ Q) X.xe s
structure PAg (X : Cx) (es : List Expr) (t : TA) : Prop where
  run : ∀ (G : Array GenState) (pos : Pos) (pins : List (Addr × Obj)) (s : Shared) (σ : L2.St) (H : Hp) (Q : List V → Hp → Prop), Inv X pins σ H s → s.gens = G → t σ H Q →
    wpAny (model X.prog X.w) X.A (spliced (backTo pos (starEach es X.env))) (fun us s' => (∃ xs H', Inv X pins σ H' s' ∧ Vals xs us ∧ Q xs H') ∧ s'.gens = G) X.xe s
structure PTg (X : Cx) (e : Expr) (t : TT) : Prop where
  run : ∀ (G : Array GenState) (wh : Expr) (pins : List (Addr × Obj)) (s : Shared) (σ : L2.St) (H : Hp) (Q : Bool → Hp → Prop), Inv X pins σ H s → s.gens = G → t σ H Q →
    wpAny (model X.prog X.w) X.A (isTrue e X.env (eval e X.env)) (fun b s' => (∃ H', Inv X pins σ H' s' ∧ Q b H') ∧ s'.gens = G) X.xe s
structure PSg (X : Cx) (st : Stmt) (t : TS) : Prop where
  run : ∀ (G : Array GenState) (pins : List (Addr × Obj)) (s : Shared) (σ : L2.St) (H : Hp) (D : Ends), Inv X pins σ H s → s.gens = G → t D σ H → wpAny (model X.prog X.w) X.A (exec st X.env) (fun f s' => SP X pins D f s' ∧ s'.gens = G) X.xe s
structure PSsg (X : Cx) (st : List Stmt) (t : TS) : Prop where
  run : ∀ (G : Array GenState) (pins : List (Addr × Obj)) (s : Shared) (σ : L2.St) (H : Hp) (D : Ends), Inv X pins σ H s → s.gens = G → t D σ H → wpAny (model X.prog X.w) X.A (execs st X.env) (fun f s' => SP X pins D f s' ∧ s'.gens = G) X.xe s
variable {X : Cx} {e e1 o i1 a b : Expr} {es : List Expr} {te t1 t2 to : TE} {t : TA} {pos pos2 pos3 : Pos}
theorem gv (i : Nat) {x : Str} (hN : X.N[i]? = some x := by rfl) (hv : Vis X.env.scope x := by first | exact Or.inl rfl | exact Or.inr (Or.inl rfl) | exact Or.inr (Or.inr rfl)) (hd : (x == ("__debug__" : Str)) = false := by decide)
    (hcd : (x == ("__classdict__" : Str)) = false := by decide) : PEg X (.Name x pos) (tVar i) := by
  refine ⟨fun G pins s σ H Q I eg ⟨v, ev, h⟩ => ?_⟩
  obtain ⟨m, n1, l1⟩ := I.loc
  obtain ⟨u, ru, l2⟩ := l1 i x v hN ev hv
  have done : EPg X G pins σ Q u s := ⟨⟨v, H, I, ru, h⟩, eg⟩
  rcases l2 with ⟨a1, a2⟩ | ⟨a1 | a1, c, a2, a3⟩
  · exact wpAny_Name (wpAny_loadName_local I.ok.kind a1 n1 a2 done) hd
  · exact wpAny_Name (wpAny_loadName_cell I.ok.kind a1 a2 a3 done) hd
  · exact wpAny_Name (wpAny_loadName_free I.ok.kind a1 a2 a3 done hcd) hd
theorem ge_int {z : Int} {j : Nat} : PEg X (.Constant (.int z) j pos) (tC (.int z)) := ⟨fun _ _ _ _ H _ I eg h => wpAny_Constant_int ⟨⟨.int z, H, I.tok _, ⟨_, rfl⟩, h⟩, eg⟩⟩
theorem ga_nil : PAg X [] tNil := ⟨fun _ _ _ _ _ H Q I eg h => Calls.spliced_nil ⟨⟨[], H, I, .nil, h⟩, eg⟩⟩
theorem ga_cons (h1 : PEg X e te) (h2 : PAg X es t) (hs : starEach (e :: es) X.env = (false, eval e X.env) :: starEach es X.env := by rfl) : PAg X (e :: es) (tCons te t) := by
  refine ⟨fun G pos pins s σ H Q I eg h => ?_⟩
  rw [hs]
  show wpAny _ _ (spliced ((false, eval e X.env) :: backTo pos (starEach es X.env))) _ _ s
  refine Calls.spliced_cons (thn (h1.run G pins s σ H _ I eg h) fun u sa ⟨⟨x, Ha, Ia, ra, qa⟩, ega⟩ => ?_)
  exact thn (h2.run G pos pins sa σ Ha _ Ia ega qa) fun us sb ⟨⟨xs, Hb, Ib, rb, qb⟩, egb⟩ => ⟨⟨x :: xs, Hb, Ib, .cons ra rb, qb⟩, egb⟩
theorem ge_tup {k} (h : PAg X es t) : PEg X (.Tuple es k pos) (tTup t) := by
  refine ⟨fun G pins s σ H Q I eg hq => ?_⟩
  refine wpAny_Tuple_spliced (thn (h.run G pos pins s σ H _ I eg hq) fun us sa ⟨⟨xs, Ha, Ia, ra, z, qa⟩, ega⟩ => ⟨by rw [← ra.length]; exact z, ?_⟩)
  refine ⟨⟨.ref sa.heap.objs.size, upd Ha sa.heap.objs.size (.tup xs), Ia.laid (t' := sa.toks) (fun c u ec => Heap.get?_push_of_some _ ec) (Nat.le_refl _) ?_, rfl, qa _ (Ia.hok.fresh (Nat.le_refl _))⟩, ega⟩
  exact ⟨z, us, ra, ⟨_, Heap.get?_push_size _ rfl, rfl, _, rfl⟩⟩
theorem ge_ixT (h1 : PEg X a t1) (h2 : PEg X b t2) (hs : PlainIx b) : PEg X (.Subscript a b pos) (tOp (rIxT X.K) t1 t2) := by
  refine ⟨fun G pins s σ H Q I eg h => ?_⟩
  refine Subscript_ (thn (h1.run G pins s σ H _ I eg h) fun v sa ⟨⟨x, Ha, Ia, ra, qa⟩, ega⟩ => thn (h2.run G pins sa σ Ha _ Ia ega qa) fun u sb ⟨⟨y, Hb, Ib, rb, qb⟩, egb⟩ => ?_)
  obtain ⟨p, xs, j, z, rfl, rfl, hq, hat, q⟩ := qb
  cases ra
  obtain ⟨tk, rfl⟩ := rb
  obtain ⟨its, rv, pl, hz⟩ := Ib.tuple hq
  obtain ⟨n, n1, n2, n3, n4, n5⟩ := atI_get hat
  obtain ⟨w', ew, rw'⟩ := rv.get n2
  have hl := rv.length
  have hn := line63
  have done : EPg X G pins σ Q w' sb := ⟨⟨z, Hb, Ib, rw', q⟩, egb⟩
  exact subscriptTail_builtinR (x := w') pl.typeIs slot_tuple_getitem.lookup
    (getItem_tuple (j := n) (Q := fun r s' => r = w' ∧ EPg X G pins σ Q r s') pl (by omega) (by omega) (by rw [List.size_toArray, ← hl]; exact n1) (by simpa using ew) ⟨rfl, done⟩) (hs _ _)
theorem ge_mod (h1 : PEg X a t1) (h2 : PEg X b t2) : PEg X (.BinOp a .Mod b pos) (tOp (rI (fun _ j => j ≠ 0) fun i j => .int (i.fmod j)) t1 t2) := by
  refine ⟨fun G pins s σ H Q I eg h => ?_⟩
  refine wpAny_BinOp (thn (h1.run G pins s σ H _ I eg h) fun v sa ⟨⟨x, Ha, Ia, ra, qa⟩, ega⟩ => thn (h2.run G pins sa σ Ha _ Ia ega qa) fun u sb ⟨⟨y, Hb, Ib, rb, qb⟩, egb⟩ => ?_)
  obtain ⟨m, n, rfl, rfl, hc, q⟩ := qb
  obtain ⟨tk, rfl⟩ := ra
  obtain ⟨tk2, rfl⟩ := rb
  exact mod_int' hc ⟨⟨.int (m.fmod n), Hb, Ib.tok _, ⟨_, rfl⟩, q⟩, egb⟩
theorem ge_sub (h1 : PEg X a t1) (h2 : PEg X b t2) : PEg X (.BinOp a .Sub b pos) (tOp (rI0 fun i j => .int (i - j)) t1 t2) := by
  refine ⟨fun G pins s σ H Q I eg h => ?_⟩
  refine wpAny_BinOp (thn (h1.run G pins s σ H _ I eg h) fun v sa ⟨⟨x, Ha, Ia, ra, qa⟩, ega⟩ => thn (h2.run G pins sa σ Ha _ Ia ega qa) fun u sb ⟨⟨y, Hb, Ib, rb, qb⟩, egb⟩ => ?_)
  obtain ⟨m, n, rfl, rfl, q⟩ := qb
  obtain ⟨tk, rfl⟩ := ra
  obtain ⟨tk2, rfl⟩ := rb
  exact sub_int ⟨⟨.int (m - n), Hb, Ib.tok _, ⟨_, rfl⟩, q⟩, egb⟩
theorem ge_fld {f : Str} (h1 : PEg X e te) (hb : attributeBase e f X.env (eval e X.env) = eval e X.env) : PEg X (.Attribute e f pos) (tFld X.K te f) := by
  refine ⟨fun G pins s σ H Q I eg h => ?_⟩
  refine attr_of hb (thn (h1.run G pins s σ H _ I eg h) fun u sa ⟨⟨x, Ha, Ia, ra, p, C, dx, fs, v, ex, ep, cl, na, lk, q⟩, ega⟩ => ?_)
  subst ex
  obtain rfl : u = Value.ref p := ra
  obtain ⟨mA, O, rel, _, _, _⟩ := ins_get Ia.hok ep
  obtain ⟨w', hw, rw'⟩ := RelO.some_of (v := v) (o := mA f) (by rw [← lk]; exact rel f)
  exact get_map Ia.kIn O (cl.get f) cl.hd na hw (handed_of rw') ⟨⟨v, Ha, Ia.tok _, rw', q⟩, ega⟩
theorem ge_len {x : Str} {p : Pos} (hg : Gl X x) (hm : X.mg x = none) (hv : bootBuiltins x = some (.builtin "len")) (h1 : PAg X [e] t) (hn : x ≠ "__name__" := by decide) (hdb : (x == ("__debug__" : Str)) = false := by decide)
    (he : starEach [e] X.env = (false, eval e X.env) :: starEach [] X.env := by rfl) : PEg X (.Call (.Name x p) [e] [] pos) (tCB (fun xs H Q => ∃ p ys, xs = [.ref p] ∧ SqL X.K H p ys ∧ Q (.int ys.length) H) t) := by
  refine ⟨fun G pins s σ H Q I eg h => ?_⟩
  refine wpAny_Call_Name_kw (ld_blt I hg hm hv ?_ hn hdb)
  refine PyProof.Rows.callWith_builtin1 (thn (h1.run G pos pins s σ H _ I eg h) fun us sa ⟨⟨vs, Ha, Ia, ra, p', ys, ex, hq, q⟩, ega⟩ => ?_) he rfl
  subst ex
  obtain ⟨u, rfl, rx⟩ := vals1 ra
  cases rx
  have hn := line63
  obtain ⟨its, rv, pl, hz⟩ := Ia.list hq
  have hl := rv.length
  exact Calls.call_len_list pl.isList (by simp only [List.size_toArray] <;> omega) ⟨⟨.int ys.length, Ha, Ia.tok _, ⟨sa.toks + 1, by rw [List.size_toArray, hl]⟩, q⟩, ega⟩
/-- d[k], d with tuples as keys -/
def tGetT (td ty : TE) : TE := fun σ H Q => td σ H fun x H1 => ty σ H1 fun y H2 => ∃ a kvs k c v, x = .ref a ∧ y = .ref c ∧ H2 a = some (.dT kvs) ∧ H2 c = some (.tup (k.map kV)) ∧ valV kvs k = some v ∧ Q v H2
theorem ge_get {ty : TE} (hu : X.A.units + 1 < cLine) (h1 : PEg X o to) (h2 : PEg X i1 ty) (hs : NoSl i1) : PEg X (.Subscript o i1 pos) (tGetT to ty) := by
  refine ⟨fun G pins s σ H Q I eg h => ?_⟩
  refine subD_of PySem.F.slot_dict_getitem.lookup hs (thn (h1.run G pins s σ H _ I eg h) fun u sa ⟨⟨x, Ha, Ia, ra, qa⟩, ega⟩ => thn (h2.run G pins sa σ Ha _ Ia ega qa) fun iv sb ⟨⟨y, Hb, Ib, rb, p, kvs, k, c, v, ex, ey, hp, hc, hv, q⟩, egb⟩ => ?_)
  subst ex ey
  obtain rfl : u = Value.ref p := ra
  obtain rfl : iv = Value.ref c := rb
  have gd : DGet Hb p (.ref c) (some v) := .inr ⟨kvs, k, c, .inl hp, rfl, hc, hv.symm⟩
  obtain ⟨z, hd, xs, rel, dd⟩ := dt_rd Ib.hok (.inl hp)
  obtain ⟨w', hw, rw'⟩ := RelO.some_of (v := v) (o := (atKey xs k).map (·.2)) (by rw [← hv]; exact rel.val k)
  obtain ⟨pr, hp1, hp2⟩ := Option.map_eq_some_iff.mp hw
  refine ⟨dict_typeIs Ib gd, wpAny_getItem_heap (tupleKind_room_in1 hu) (key_of Ib.hok hc) dd hp1 ?_⟩
  rw [hp2]
  exact ⟨⟨v, Hb, Ib.tok _, rw', q⟩, egb⟩
/-- k in d, as a test, d with tuples as keys -/
def tInT (ty td : TE) : TT := fun σ H Q => ty σ H fun y H1 => td σ H1 fun x H2 => ∃ a kvs k c, x = .ref a ∧ y = .ref c ∧ H2 a = some (.dT kvs) ∧ H2 c = some (.tup (k.map kV)) ∧ Q (valV kvs k).isSome H2
theorem gt_in {ty : TE} (hu : X.A.units + 1 < cLine) (h1 : PEg X i1 ty) (h2 : PEg X o to) (hb : behindInMarks .In o = false := by rfl) : PTg X (.Compare i1 [.In] [o] pos) (tInT ty to) := by
  refine ⟨fun G wh pins s σ H Q I eg h => ?_⟩
  refine wpAny_isTrue_Compare1 (thn (h1.run G pins s σ H _ I eg h) fun iv sa ⟨⟨y, Ha, Ia, ra, qa⟩, ega⟩ => thn (h2.run G pins sa σ Ha _ Ia ega qa) fun u sb ⟨⟨x, Hb, Ib, rb, p, kvs, k, c, ex, ey, hp, hc, q⟩, egb⟩ => ?_) hb
  subst ex ey
  obtain rfl : u = Value.ref p := rb
  obtain rfl : iv = Value.ref c := ra
  obtain ⟨z, hd, xs, rel, dd⟩ := dt_rd Ib.hok (.inl hp)
  refine wpAny_in_heap (tupleKind_room_in1 hu) (key_of Ib.hok hc) hd dd ?_
  have e5 := (rel.val k).isSome_eq
  rw [Option.isSome_map] at e5
  rw [← e5]
  exact wpAny_truthy_bool ⟨⟨Hb, Ib.tok _, q⟩, egb⟩
/-! statements -/
theorem Inv.stored {pins : List (Addr × Obj)} {σ : L2.St} {H : Hp} {s : Shared} {i : Nat} {x : Str} {v : V} {u : Value} {m : Str → Option Value} {h' : Heap} {tk : Nat} (I : Inv X pins σ H s) (hN : X.N.Nodup) (hi : X.N[i]? = some x) (hx : X.env.scope.names.lookup x = some .local) (r : RelV v u)
    (hm : ∀ (j : Nat) (y : Str) (z : V), X.N[j]? = some y → σ[j]? = some (some z) → Vis X.env.scope y → ∃ z', RelV z z' ∧ Look X.env s.heap m y z') (hn : s.heap.Ns X.env.locals m)
    (hn' : h'.Ns X.env.locals (fun y => if y = x then some u else m y)) (sb : Heap.SameBut X.env.locals s.heap h') : Inv X pins (σ.set i (some v)) H { s with heap := h', toks := tk } := by
  have lt : i < σ.length := by rw [I.len]; exact (List.getElem?_eq_some_iff.mp hi).1
  have old : ∀ {c : Addr} {o : Obj}, X.s_0.heap.get? c = some o → c ≠ X.env.locals := fun {c o} ec => Nat.ne_of_lt (Nat.lt_of_lt_of_le (Heap.lt_size ec) I.ok.above)
  refine ⟨I.ok, I.os, I.bare, ⟨fun c o ec n1 n2 n3 => ?_, fun c o ec n1 n2 n3 => ?_, I.base.free, fun c o ec n1 => ?_, I.base.tups, I.base.frzs, I.base.tbls⟩, ⟨_, hn', fun j y z q1 q2 q3 => ?_⟩, fun y c ec => ?_, I.free, I.freeC, fun q hq => ?_, fun c o ec => ?_, by simpa using I.len⟩
  · exact (sb.2 c (old ec)).trans (I.base.keep c o ec n1 n2 n3)
  · obtain ⟨sl, q⟩ := I.base.slot c o ec n1 n2 n3
    exact ⟨sl, (sb.2 c (old ec)).trans q⟩
  · obtain ⟨o', q⟩ := I.base.there c o ec n1
    exact ⟨o', (sb.2 c (old ec)).trans q⟩
  · by_cases hj : j = i
    · subst hj
      obtain rfl : y = x := Option.some.inj (q1.symm.trans hi)
      rw [List.getElem?_set_self lt] at q2
      obtain rfl : v = z := Option.some.inj (Option.some.inj q2)
      exact ⟨u, r, .inl ⟨hx, if_pos rfl⟩⟩
    · rw [List.getElem?_set_ne (Ne.symm hj)] at q2
      obtain ⟨z', r1, q⟩ := hm j y z q1 q2 q3
      refine ⟨z', r1, ?_⟩
      rcases q with ⟨k1, k2⟩ | ⟨k1, c, k2, k3⟩
      · refine .inl ⟨k1, ?_⟩
        have ne : y ≠ x := fun ey => by
          subst ey
          obtain ⟨l1, e1⟩ := List.getElem?_eq_some_iff.mp q1
          obtain ⟨l2, e2⟩ := List.getElem?_eq_some_iff.mp hi
          have pw := List.pairwise_iff_getElem.mp hN
          rcases Nat.lt_or_gt_of_ne hj with z | z
          · exact pw j i l1 l2 z (e1.trans e2.symm)
          · exact pw i j l2 l1 z (e2.trans e1.symm)
        show (if y = x then some u else m y) = some z'
        rw [if_neg ne]
        exact k2
      · exact .inr ⟨k1, c, k2, k3.sameBut sb (I.cne y c k2)⟩
  · obtain ⟨z, q⟩ := I.cell y c ec
    exact ⟨z, q.sameBut sb (I.cne y c ec)⟩
  · obtain ⟨q1, q2, q3, q4, q5⟩ := I.pin q hq
    exact ⟨(sb.2 q.1 q3).trans q1, q2, q3, q4, q5⟩
  · refine (I.hok c o ec).stay (fun d z hd q => (sb.2 d ?_).trans q) (fun _ q => q) fun _ _ q => q
    rintro rfl
    rcases hd with rfl | hd
    · rw [I.free] at ec; cases ec
    · rw [I.free] at hd; cases hd
/-- a store to a local name leaves the generators alone -/
theorem gstore {M : Model} {A : Around} {E : Value → Shared → Prop} {pins : List (Addr × Obj)} {σ : L2.St} {H : Hp} {s : Shared} {i : Nat} {x : Str} {v : V} {u : Value} {Q : Unit → Shared → Prop} (I : Inv X pins σ H s) (hN : X.N.Nodup) (hi : X.N[i]? = some x) (hx : X.env.scope.names.lookup x = some .local) (r : RelV v u)
    (h : ∀ s', Inv X pins (σ.set i (some v)) H s' → s'.gens = s.gens → Q () s') : wpAny M A (storeName X.env x u) Q E s := by
  obtain ⟨m, hn, hl⟩ := id I.loc
  have hc : (X.env.scope.kind == .class || (X.env.scope.kind == .module && X.env.locals != X.env.globals)) = false := by rw [I.ok.kind]; rfl
  exact wpAny_storeName_local hx hn (fun h' hn' sb => h _ (Inv.stored I hN hi hx r hl hn hn' sb) rfl) hc
theorem gs_set {i : Nat} {x : Str} {p : Pos} (hN : X.N.Nodup) (hi : X.N[i]? = some x) (hx : X.env.scope.names.lookup x = some .local) (h1 : PEg X e te)
    (hs : swapsWithSole [.Name x p] e pos.line X.env = pure false := by rfl) (hw : swappedStores [.Name x p] e X.env = pure none := by rfl) (hq : (assignEach [.Name x p] X.env).map (·.2) = [assign (.Name x p) X.env] := by rfl) : PSg X (.Assign [.Name x p] e pos) (tAsg te (gName i)) := by
  refine ⟨fun G pins s σ H D I eg h => ?_⟩
  refine wpAny_Assign_stores (thn (h1.run G pins s σ H _ I eg h) fun v sa ⟨⟨y, Ha, Ia, ra, qa⟩, ega⟩ => ?_) hs hw
  rw [hq]
  refine wpAny_assign_Name (gstore Ia hN hi hx ra fun sb Ib egb => ?_)
  exact ⟨⟨_, Ha, Ib, qa⟩, egb.trans ega⟩
/-- xs.append(e) as a statement -/
def tAppS (to te : TE) : TS := fun D σ H => to σ H fun x H1 => ∃ l xs0, x = .ref l ∧ H1 l = some (.lst xs0) ∧ te σ H1 fun y H2 => ∃ xs, H2 l = some (.lst xs) ∧ xs.length < sizeLine ∧ D.nx σ (upd H2 l (.lst (xs ++ [y])))
theorem gs_append {apos cpos : Pos} (h1 : PEg X o to) (h2 : PEg X e te)
    (hbase : attributeBase o "append" X.env (eval o X.env) = eval o X.env := by rfl)
    (hfew : ((backTo cpos (starEach [e] X.env)).all (fun x => !x.1) && (backToKw cpos (keywordEach [] X.env)).all (fun x => x.1.isSome) && decide ([e].length + ([] : List Keyword).length + (if ([] : List Keyword).isEmpty then 0 else 1) < 30)) = true := by rfl)
    (hline : (apos.endLine == cpos.line) = true := by rfl) (hst : starEach [e] X.env = [(false, eval e X.env)] := by rfl)
    (hs : swapsWith (.Call (.Attribute o "append" apos) [e] [] cpos) none pos.line X.env = pure false := by rfl) : PSg X (.Expr (.Call (.Attribute o "append" apos) [e] [] cpos) pos) (tAppS to te) := by
  refine ⟨fun G pins s σ H D I eg h => ?_⟩
  refine wpAny_Expr_any ?_ I.quiet hs
  refine wpAny_Call_method_late hbase hfew hline rfl (thn (h1.run G pins s σ H _ I eg h) fun v sa ⟨⟨x, Ha, Ia, ra, l, xs0, ex, hl0, q⟩, ega⟩ => ?_)
  subst ex
  obtain ⟨hty, hno⟩ := tyV_is (T := "list") Ia ra (Or.inl ⟨rfl, _, Or.inl (Or.inl hl0)⟩)
  refine ⟨"list", "list.append", PySem.F.plainAttrs_list, PySem.F.slot_list_append, PySem.F.type_list_append, hty, hno, ?_⟩
  obtain rfl : v = Value.ref l := ra
  rw [hst]
  refine Calls.callWith_builtin rfl (Calls.evalArgs_plain ?_)
  refine Calls.spliced_cons (thn (h2.run G pins sa σ Ha _ Ia ega q) fun u sb ⟨⟨y, Hb, Ib, rb, xs, hl, hz, q2⟩, egb⟩ => Calls.spliced_nil ?_)
  obtain ⟨z, its, n, r, hlen, ei⟩ := Ib.lstM hl
  refine call_meets F.slot_list_append ⟨_, ei, rfl⟩ F.entry_list_append (F.args_list_append_2 _ _) (PySem.list_append l its.toArray n u (by rw [List.size_toArray]; omega)) ⟨ei, ?_⟩
  refine ⟨⟨σ, _, Ib.lset (its' := its ++ [u]) hl ei (by simp) (r.append (.cons rb .nil)) ?_, q2⟩, egb⟩
  rw [List.length_append, List.length_singleton]
  omega
theorem gs_if {c : Expr} {s1 s2 : List Stmt} {tc : TT} {u1 u2 : TS} (hc : PTg X c tc) (ha : PSsg X s1 u1) (hb : PSsg X s2 u2) : PSg X (.If c s1 s2 pos) (tIfS tc u1 u2) := by
  refine ⟨fun G pins s σ H D I eg h => ?_⟩
  refine wpAny_If (thn (hc.run G c pins s σ H _ I eg h) fun d sa ⟨⟨Ha, Ia, qa⟩, ega⟩ => ?_)
  cases d with
  | true => exact ha.run G pins sa σ Ha D Ia ega qa
  | false => exact hb.run G pins sa σ Ha D Ia ega qa
theorem gs_ret (h1 : PEg X e te) : PSg X (.Return (some e) pos) (tRet te) := by
  refine ⟨fun G pins s σ H D I eg h => ?_⟩
  exact wpAny_Return_some (thn (h1.run G pins s σ H _ I eg h) fun v sa ⟨⟨x, Ha, Ia, ra, qa⟩, ega⟩ => ⟨⟨x, σ, Ha, Ia, ra, qa⟩, ega⟩)
/-- d[k] = e, d with tuples as keys -/
def tPutT (td ty tv : TE) : TS := fun D σ H => tv σ H fun v H1 => td σ H1 fun x H2 => ty σ H2 fun y H3 => ∃ a kvs k c, x = .ref a ∧ y = .ref c ∧ H3 a = some (.dT kvs) ∧ H3 c = some (.tup (k.map kV)) ∧ kvs.length < sizeLine ∧ D.nx σ (upd H3 a (.dT (putK kvs k v)))
theorem gs_put {ty tv : TE} {value : Expr} (hu : X.A.units + 1 < cLine) (h1 : PEg X o to) (h2 : PEg X i1 ty) (h3 : PEg X value tv) (hs : swapsWith value (some (.Subscript o i1 pos2)) pos.line X.env = pure false) : PSg X (.Assign [.Subscript o i1 pos2] value pos) (tPutT to ty tv) := by
  refine ⟨fun G pins s σ H D I eg h => ?_⟩
  refine wpAny_Assign_Subscript (thn (h3.run G pins s σ H _ I eg h) fun r sa ⟨⟨v, Ha, Ia, ra, qa⟩, ega⟩ => thn (h1.run G pins sa σ Ha _ Ia ega qa) fun u sb ⟨⟨x, Hb, Ib, rb, qb⟩, egb⟩ =>
    thn (h2.run G pins sb σ Hb _ Ib egb qb) fun iv sc ⟨⟨y, Hc, Ic, rc, p, kvs, k, c, ex, ey, hp, hc, hl, q⟩, egc⟩ => ?_) hs
  subst ex ey
  obtain rfl : u = Value.ref p := rb
  obtain rfl : iv = Value.ref c := rc
  obtain ⟨z, hd, xs, rel, dd⟩ := dt_of Ic.hok hp
  have hz : xs.length ≤ sizeLine := by rw [← Paired.length rel]; exact z
  have hl2 : (putK kvs k v).length ≤ sizeLine := by have := length_putK kvs k v; omega
  refine wpAny_setItem_heap (hsz := hz) (tupleKind_room_in1 hu) (key_of Ic.hok hc) dd fun h' dd' sb2 => ?_
  obtain ⟨ob, es, ep, q1, q2, q3, q4, _, q5⟩ := dd'
  refine ⟨⟨σ, upd Hc p (.dT (putK kvs k v)), d_write Ic (by rw [hp]; exact True.intro) sb2 ⟨ob, q1⟩ ⟨hl2, hd, _, (rel.put k hc ra).keeps fun c' ys ec => ?_, ob, es, ep, q1, q2, q3, q4, q5⟩, q⟩, egc⟩
  rw [upd_ne (ne_of ec hp (fun z => nomatch z))]
  exact ec
theorem gss_one {st : Stmt} {u1 : TS} (h1 : PSg X st u1) : PSsg X [st] u1 := by
  refine ⟨fun G pins s σ H D I eg h => ?_⟩
  refine wpAny_execs_cons (thn (h1.run G pins s σ H D I eg h) fun f sa qa => ?_)
  cases f with
  | next => exact wpAny_execs_nil qa
  | ret v => exact qa
  | brk => exact qa
  | cont => exact qa
theorem gss_nil0 : PSsg X [] (fun D σ H => D.nx σ H) := ⟨fun _ _ _ σ H _ I eg h => wpAny_execs_nil ⟨⟨σ, H, I, h⟩, eg⟩⟩
theorem gss_two {st : Stmt} {rest : List Stmt} {u1 u2 : TS} (h1 : PSg X st u1) (h2 : PSsg X rest u2) : PSsg X (st :: rest) (tSeq u1 u2) := by
  refine ⟨fun G pins s σ H D I eg h => ?_⟩
  refine wpAny_execs_cons (thn (h1.run G pins s σ H _ I eg h) fun f sa qa => ?_)
  cases f with
  | next =>
    obtain ⟨⟨σ1, Ha, Ia, q1⟩, ega⟩ := qa
    exact h2.run G pins sa σ1 Ha D Ia ega q1
  | ret v => exact qa
  | brk => exact qa
  | cont => exact qa
end
/-! ### a for over a generator of the program's own: the two sides' invariants -/
section
open PyProof.Rows GenW
def cutH (h : Heap) (n : Nat) : Heap := { h with objs := h.objs.extract 0 n }
theorem cutH_size {h : Heap} {n : Nat} (hn : n ≤ h.objs.size) : (cutH h n).objs.size = n := by
  show (h.objs.extract 0 n).size = n
  rw [Array.size_extract]
  omega
theorem cut_at {α : Type} (xs : Array α) {n b : Nat} (hb : b < n) : (xs.extract 0 n)[b]? = xs[b]? := by
  rw [Array.getElem?_extract]
  by_cases c : b < xs.size
  · rw [if_pos (by omega), Nat.zero_add]
  · rw [if_neg (by omega)]
    exact (Array.getElem?_eq_none (by omega)).symm
theorem cutH_get {h : Heap} {n : Nat} {b : Addr} (hb : b < n) : (cutH h n).get? b = h.get? b := by
  unfold Heap.get?
  show (match (h.objs.extract 0 n)[b]? with | some ⟨_, _, .freed, _⟩ => none | o => o) = _
  rw [cut_at h.objs hb]
  rfl
theorem ext_lt {α : Type} {xs : Array α} {n b : Nat} (h : b < (xs.extract 0 n).size) : b < n := by
  rw [Array.size_extract] at h
  omega
theorem cutH_some {h : Heap} {n : Nat} {b : Addr} {o : Obj} (e : (cutH h n).get? b = some o) : b < n ∧ h.get? b = some o := by
  have lt : b < n := ext_lt (xs := h.objs) (Heap.lt_size e)
  exact ⟨lt, by rw [← cutH_get lt]; exact e⟩
/-- the context of the generator's frame, woken at s with H; n0: its names' place -/
def gx (Xc : Cx) (N : List Str) (qual : Str) (scope : Scope) (f : Addr) (cd : Value) (n0 : Nat) (s : Shared) (H : Hp) : Cx where
  prog := Xc.prog
  w := Xc.w
  K := Xc.K
  mg := Xc.mg
  base := Xc.base
  A := Xc.A.in1.deeper (envOfC qual scope n0 f cd)
  N := N
  s_0 := { s with heap := cutH s.heap n0 }
  H_0 := H
  env := envOfC qual scope n0 f cd
  outer := Xc.stack
  stack := envOfC qual scope n0 f cd :: Xc.stack
  ex := []
  calm := true
  fn := fun _ => true
  pn := []
  xe := fun _ _ => False
/-- what the generator's slots hold, by its names' object -/
def LocG (N : List Str) (qual : Str) (scope : Scope) (f : Addr) (cd : Value) (n0 : Nat) (σ : L2.St) (h : Heap) : Prop :=
  ∃ m, h.Ns n0 m ∧ ∀ (i : Nat) (x : Str) (v : V), N[i]? = some x → σ[i]? = some (some v) → Vis scope x → ∃ u, RelV v u ∧ Look (envOfC qual scope n0 f cd) h m x u
variable {Xc : Cx} {N : List Str} {qual : Str} {scope : Scope} {f : Addr} {cd : Value} {n0 : Nat} {pins : List (Addr × Obj)} {σc σg : L2.St} {H H1 : Hp} {s s1 : Shared}
/-- no cells in the generator's scope -/
def NoCell (scope : Scope) : Prop := ∀ x, scope.names.lookup x ≠ some .cell ∧ scope.names.lookup x ≠ some .free
/-- the generator's side, from the consumer's -/
theorem gx_inv (I : Inv Xc pins σc H s) (calm : Xc.calm = true) (kind : scope.kind = .function) (nc : NoCell scope) (cl : (envOfC qual scope n0 f cd).cells = []) (hbz : Xc.base.objs.size ≤ n0) (hs : n0 < s.heap.objs.size) (hf : ∀ b ∈ frs Xc.stack, b < n0) (hn : H n0 = none)
    (hl : LocG N qual scope f cd n0 σg s.heap) (len : σg.length = N.length)
    {pg : List (Addr × Obj)} (hpg : ∀ p ∈ pg, s.heap.get? p.1 = some p.2 ∧ H p.1 = none ∧ p.1 ≠ n0 ∧ p.1 ∉ frs Xc.stack ∧ ∀ v, p.2.data ≠ .cell v) : Inv (gx Xc N qual scope f cd n0 s H) pg σg H s := by
  have hz : (cutH s.heap n0).objs.size = n0 := cutH_size (Nat.le_of_lt hs)
  have nol : ∀ x c, (envOfC qual scope n0 f cd).cells.lookup x = some c → False := fun x c e => by
    rw [cl] at e
    cases e
  have e0 := I.env0
  have ff : ∀ {l : List Env}, (∀ b ∈ frs l, b < n0) → s.heap.FunFrames Xc.base l → (cutH s.heap n0).FunFrames Xc.base l := by
    intro l
    induction l with
    | nil => intro _ _; trivial
    | cons ev r ih =>
      intro hb ⟨q1, ⟨L, o, q2, q3, q4, q5⟩, q6⟩
      have mem : L ∈ frs (ev :: r) := by
        unfold frs
        exact List.mem_filterMap.mpr ⟨ev, List.mem_cons_self, q2⟩
      refine ⟨q1, ⟨L, o, q2, q3, ?_, q5⟩, ih (fun b hb2 => hb b ?_) q6⟩
      · rw [cutH_get (hb L mem)]
        exact q4
      · unfold frs at *
        obtain ⟨e', he', hh⟩ := List.mem_filterMap.mp hb2
        exact List.mem_filterMap.mpr ⟨e', List.mem_cons_of_mem _ he', hh⟩
  refine ⟨⟨I.ok.mod, kind, rfl, rfl, ?_, fun x y c q _ => (nol x c q).elim, fun x q => ?_, fun x c _ q => (nol x c q).elim, fun _ => ?_, Around.frames_deeper e0.in1.frames, .inr ⟨rfl, rfl⟩, fun b z => absurd z (by show b ∉ ([] : List Addr); simp), fun b o e => ?_, ?_, fun b _ _ => by show b ∉ ([] : List Addr); simp, fun b z => absurd z (by show b ∉ ([] : List Addr); simp), ff hf I.stack, I.stkFree⟩,
    rfl, I.bare, ⟨fun b o e _ _ _ => (cutH_some e).2, fun b o e _ _ _ => ⟨o.slots, (cutH_some e).2⟩, fun _ _ _ n _ => n, fun b o e _ => ⟨o, (cutH_some e).2⟩, fun _ _ e => e, fun _ _ _ e => e, fun _ _ e => ⟨#[], by rw [show (gx Xc N qual scope f cd n0 s H).H_0 = H from rfl] at e; rw [e]; simp⟩⟩,
    hl, fun x c q => (nol x c q).elim, hn, fun x c q => (nol x c q).elim, fun p hp => hpg p hp, I.hok, len⟩
  · show (cutH s.heap n0).objs.size ≤ n0
    rw [hz]
    exact Nat.le_refl _
  · rcases q with q | q
    · exact absurd q (nc x).1
    · exact absurd q (nc x).2
  · exact I.ok.hd calm
  · have q := I.bs b o e
    refine ⟨?_, q.2⟩
    show (cutH s.heap n0).get? b = some o
    rw [cutH_get (Nat.lt_of_lt_of_le (Heap.lt_size e) hbz)]
    exact q.1
  · show Xc.base.objs.size ≤ (cutH s.heap n0).objs.size
    rw [hz]
    exact hbz
/-- back from the generator's side to the consumer's -/
theorem gx_back {pg : List (Addr × Obj)} (I : Inv Xc pins σc H s) (J : Inv (gx Xc N qual scope f cd n0 s H) pg σg H1 s1) (nc : Xc.env.cells = []) (h0 : Xc.s_0.heap.objs.size ≤ n0) (hL : Xc.env.locals < n0) (hp : ∀ p ∈ Xc.pn ++ pins, p.1 < n0) {G : Array GenState} (hG : AllBare G) :
    Inv Xc pins σc H1 { s1 with gens := G } := by
  have u : Un (frs Xc.stack) [] H H1 (cutH s.heap n0) s1.heap := J.base
  have cut : ∀ {b : Addr} {o : Obj}, b < n0 → s.heap.get? b = some o → (cutH s.heap n0).get? b = some o := fun {b o} lt e => (cutH_get lt).trans e
  have old : ∀ {b : Addr} {o : Obj}, Xc.s_0.heap.get? b = some o → b < n0 := fun {b o} e => Nat.lt_of_lt_of_le (Heap.lt_size e) h0
  have nst : ∀ {b : Addr} {o : Obj}, Xc.s_0.heap.get? b = some o → b ∉ Xc.fs → b ∉ frs Xc.stack := fun {b o} e hb hm => by
    rcases List.mem_cons.mp (I.stkSub b hm) with z | z
    · rw [z] at e
      exact absurd (Nat.lt_of_lt_of_le (Heap.lt_size e) I.ok.above) (Nat.lt_irrefl _)
    · exact hb z
  have nol : ∀ x c, Xc.env.cells.lookup x = some c → False := fun x c e => by
    rw [nc] at e
    cases e
  obtain ⟨m, ⟨oL, es, ep, hoL, rL⟩, hl⟩ := id I.loc
  obtain ⟨slL, hoL1⟩ := u.any (cut hL hoL) I.free (by simp)
  refine ⟨I.ok, J.os.trans I.os, hG, ⟨fun b o e n hb hx => ?_, fun b o e n hb hx => ?_, fun b o e n hx => ?_, fun b o e hx => ?_, fun b xs e => u.tups b xs (I.base.tups b xs e), fun b o v e => u.frzs b o v (I.base.frzs b o v e), fun b ps e => ?_⟩, ⟨m, ⟨_, es, ep, hoL1, rL⟩, fun i x v q1 q2 q3 => ?_⟩, fun x c e => (nol x c e).elim, ?_, fun x c e => (nol x c e).elim, fun p q => ?_, J.hok, I.len⟩
  · exact u.keep b o (cut (old e) (I.base.keep b o e n hb hx)) (I.base.free b o e n hx) (nst e hb) (by simp)
  · obtain ⟨sl, e1⟩ := I.base.slot b o e n hb hx
    obtain ⟨sl2, e2⟩ := u.any (cut (old e) e1) (I.base.free b o e n hx) (by simp)
    exact ⟨sl2, e2⟩
  · obtain ⟨o', e1⟩ := I.base.there b o e hx
    exact u.free b o' (cut (old e) e1) (I.base.free b o e n hx) (by simp)
  · obtain ⟨o', e1⟩ := I.base.there b o e hx
    exact u.there b o' (cut (old e) e1) (by simp)
  · obtain ⟨m1, e1⟩ := I.base.tbls b ps e
    obtain ⟨m2, e2⟩ := u.tbls b _ e1
    exact ⟨m1 ++ m2, by rw [e2, Array.append_assoc]⟩
  · obtain ⟨z, r, lk⟩ := hl i x v q1 q2 q3
    refine ⟨z, r, ?_⟩
    rcases lk with ⟨k1, k2⟩ | ⟨_, c, k2, _⟩
    · exact .inl ⟨k1, k2⟩
    · exact (nol x c k2).elim
  · exact u.free _ oL (cut hL hoL) I.free (by simp)
  · obtain ⟨q1, q2, q3, q4, q5⟩ := I.pin p q
    refine ⟨u.keep p.1 p.2 (cut (hp p q) q1) q2 (fun hm => ?_) (by simp), u.free p.1 p.2 (cut (hp p q) q1) q2 (by simp), q3, q4, q5⟩
    rcases List.mem_cons.mp (I.stkSub p.1 hm) with z | z
    · exact q3 z
    · exact q4 z
end
section
open PyProof.Rows GenW
variable {Xc : Cx} {pins : List (Addr × Obj)} {σ : L2.St} {H : Hp} {s : Shared}
theorem LocG.keep {N : List Str} {qual : Str} {scope : Scope} {f : Addr} {cd : Value} {n0 : Nat} {σg : L2.St} {h h' : Heap} (cl : (envOfC qual scope n0 f cd).cells = []) (l : LocG N qual scope f cd n0 σg h) (e : ∀ o, h.get? n0 = some o → h'.get? n0 = some o) : LocG N qual scope f cd n0 σg h' := by
  obtain ⟨m, ⟨o, es, ep, ho, r⟩, q⟩ := l
  refine ⟨m, ⟨o, es, ep, e o ho, r⟩, fun i x v q1 q2 q3 => ?_⟩
  obtain ⟨u, ru, lk⟩ := q i x v q1 q2 q3
  refine ⟨u, ru, ?_⟩
  rcases lk with k | ⟨_, c, k2, _⟩
  · exact .inl k
  · rw [cl] at k2
    cases k2
/-- a generator that has just been made -/
def GNew (N : List Str) (qual : Str) (scope : Scope) (f : Addr) (cd : Value) (body : List Stmt) (vs : List V) (s : Shared) (u : Value) (s' : Shared) : Prop :=
  ∃ (a : Addr) (g : Nat), u = .ref a ∧ s.heap.objs.size < a ∧ s'.heap.IsGen a g ∧ s'.gens[g]? = some (.fresh (.func body (envOfC qual scope s.heap.objs.size f cd))) ∧ s'.os = s.os ∧ AllBare s'.gens ∧
    (∀ b o, s.heap.get? b = some o → s'.heap.get? b = some o) ∧ LocG N qual scope f cd s.heap.objs.size (start N vs) s'.heap ∧ ∃ o, s'.heap.get? s.heap.objs.size = some o ∧ ∀ v, o.data ≠ .cell v
theorem gen_new {k : Nat} {f : Addr} {name qual : Str} {params : Arguments} {body : List Stmt} {scope : Scope} {dV kV doc pm cdv ct oc : Value} {an od : Option Addr} {osl : Array (Option Value)} {N ps : List Str} {us : List Value} {vs : List V} {args : Args}
    (lk : Xc.K.lookup f = some ⟨oc, od, .func (PySem.W.fnOf name qual params body scope dV kV doc pm an cdv ct), osl⟩) (hcd : PySem.W.codeIn Xc.K cdv qual = true) (S : GScope N ps scope) (I : Inv Xc pins σ H s) (hr : Room k Xc.A)
    (hb : BindsTo s (PySem.W.fnOf name qual params body scope dV kV doc pm an cdv ct) args (ps.zip us)) (r : Vals vs us) (hl : vs.length = ps.length) :
    codeAny (model Xc.prog Xc.w) Xc.A (.call (.ref f) args) (fun r s' => match r with | .ok (.ret u) => GNew N qual scope f cdv body vs s u s' | _ => False) s := by
  have KX : Xc.K.In s.heap := I.kIn
  have e0 := I.env0
  have hk : ∀ y ∈ ps.zip us, scope.names.lookup y.1 = some .local ∨ (scope.names.lookup y.1 = some .cell ∧ ((cellsFrom (s.heap.objs.size + 1) scope.names []).lookup y.1).isSome = true) := by
    rintro ⟨n, v⟩ hy
    rcases S.par n (List.of_mem_zip hy).1 with q | q
    · exact .inl q
    · exact .inr ⟨q, PySem.W.cellsFrom_some _ _ _ (.inl q)⟩
  refine codeAny_call_generator hr.depth (KX _ _ lk) rfl S.co S.gen rfl (PySem.W.codeRec_of KX hcd) (hb _ _ _ _ ?_)
  refine wpAny_newFunctionEnv_cells S.kind hk fun env he s1 x => ?_
  subst he
  have J := inv_startG (E := fun _ _ _ => False) S hr.hd e0 hl r x
  obtain ⟨h1, tk, es1, hk1⟩ := x.done
  have lt : s.heap.objs.size < s1.heap.objs.size := x.toInCall.ns.lt
  have kp : ∀ b o, s.heap.get? b = some o → s1.heap.get? b = some o := x.toInCall.keep
  refine ⟨I.nolimit.keeps kp, ?_⟩
  have up : ∀ (go : Obj) (b : Addr) (o : Obj), s1.heap.get? b = some o → (s1.heap.push go).get? b = some o := fun go b o e => Heap.get?_push_of_some _ e
  obtain ⟨m, ⟨o, xs, ep, ho, rr⟩, q⟩ := J.loc
  refine ⟨s1.heap.objs.size, s1.gens.size, rfl, lt, ⟨_, _, _, Heap.get?_push_size _ rfl, rfl, rfl, rfl⟩, Array.getElem?_push_size .., by rw [es1], ?_, fun b o e => up _ b o (kp b o e), ⟨m, ⟨o, xs, ep, up _ _ o ho, rr⟩, fun i y v q1 q2 q3 => ?_⟩, ⟨o, up _ _ o ho, fun v z => ?_⟩⟩
  · exact AllBare.push (by rw [es1]; exact I.bare) rfl
  · obtain ⟨z, rz, lz⟩ := q i y v q1 q2 q3
    refine ⟨z, rz, ?_⟩
    rcases lz with k | ⟨k1, c, k2, k3⟩
    · exact .inl k
    · obtain ⟨oc, k4, k5⟩ := k3
      exact .inr ⟨k1, c, k2, oc, up _ _ oc k4, k5⟩
  · obtain ⟨z1, z2⟩ := rr
    rw [z] at z1
    cases z1
end
section
open PyProof.Rows GenW
theorem inv_gens {X : Cx} {pins : List (Addr × Obj)} {σ : L2.St} {H : Hp} {s : Shared} (I : Inv X pins σ H s) {G : Array GenState} (hG : AllBare G) : Inv X pins σ H { s with gens := G } :=
  ⟨I.ok, I.os, hG, I.base, I.loc, I.cell, I.free, I.freeC, I.pin, I.hok, I.len⟩
/-- one plain statement of a generator's body -/
theorem seg_plain {X : Cx} {A : Around} {R : GenEnd} {Y : Protocol} {n : Nat} {s₀ s : Shared} {c : Code} {fs : List Frame} {K : Flow → Sem PySem.Fin} {J : Value → Sem PySem.Fin} {gd : Bool → Bool} {lv : List Value → List Value} {st : Stmt} {t : TS} {pg : List (Addr × Obj)} {σ : L2.St} {H : Hp}
    (ho : A.over c fs = X.A) (hx : X.xe = fun _ _ => False) (hs : PS X st t) (I : Inv X pg σ H s) (Nx : L2.St → Hp → Prop) (ht : t { nx := Nx, rt := fun _ _ => False } σ H)
    (k : ∀ σ' H' s', Inv X pg σ' H' s' → Nx σ' H' → Seg (model X.prog X.w) A R Y n s₀ c (K .next) fs s') : Seg (model X.prog X.w) A R Y n s₀ c ((exec st X.env).wrap K J gd lv) fs s := by
  refine seg_wrap ?_
  rw [ho]
  refine wpAny_mono (hs.run pg s σ H _ I ht) (fun fl s' hf => ?_) fun x s' h => ?_
  · cases fl with
    | next =>
      obtain ⟨σ', H', I', q⟩ := hf
      exact k σ' H' s' I' q
    | brk => obtain ⟨_, _, _, q⟩ := hf; exact q.elim
    | cont => obtain ⟨_, _, _, q⟩ := hf; exact q.elim
    | ret v => obtain ⟨_, _, _, _, _, q⟩ := hf; exact q.elim
  · rw [hx] at h
    exact h.elim
/-- all that stands still through the loop -/
structure GFix where
  Xc : Cx
  pins : List (Addr × Obj)
  N : List Str
  qual : Str
  scope : Scope
  f : Addr
  cd : Value
  n0 : Nat
  a : Addr
  go : Obj
  L : List (Nat × Nat)
  W : Nat → V → L2.St → Hp → Prop
  SG : Nat → V → L2.St
  ex : List Addr
/-- what the generator's side must find as it was: its own object and what stands above its frame -/
abbrev GFix.pg (Φ : GFix) (s : Shared) : List (Addr × Obj) := (Φ.a, Φ.go) :: pinsAt Φ.ex s.heap
abbrev GFix.env (Φ : GFix) : Env := envOfC Φ.qual Φ.scope Φ.n0 Φ.f Φ.cd
abbrev GFix.gx (Φ : GFix) (s : Shared) (H : Hp) : Cx := Cp.gx Φ.Xc Φ.N Φ.qual Φ.scope Φ.f Φ.cd Φ.n0 s H
abbrev GFix.loc (Φ : GFix) (σ : L2.St) (h : Heap) : Prop := LocG Φ.N Φ.qual Φ.scope Φ.f Φ.cd Φ.n0 σ h
structure GFix.Ok (Φ : GFix) : Prop where
  calm : Φ.Xc.calm = true
  kind : Φ.scope.kind = .function
  nc : NoCell Φ.scope
  cl : Φ.env.cells = []
  hbz : Φ.Xc.base.objs.size ≤ Φ.n0
  hex : ∀ b ∈ Φ.ex, b ≠ Φ.n0 ∧ b ∉ frs Φ.Xc.stack
  hf : ∀ b ∈ frs Φ.Xc.stack, b < Φ.n0
  lt : Φ.n0 < Φ.a
  cell : ∀ v, Φ.go.data ≠ .cell v
/-- before the i-th item is asked for; xv: the item before it -/
structure GFix.Ready (Φ : GFix) (i : Nat) (xv : V) (σ : L2.St) (H : Hp) (s : Shared) : Prop where
  I : Inv Φ.Xc Φ.pins σ H s
  w : Φ.W i xv σ H
  hn : H Φ.n0 = none
  ha : H Φ.a = none
  ga : s.heap.get? Φ.a = some Φ.go
  loc : Φ.loc (Φ.SG i xv) s.heap
  len : (Φ.SG i xv).length = Φ.N.length
  px : ∀ b ∈ Φ.ex, H b = none ∧ ∃ o, s.heap.get? b = some o ∧ ∀ v, o.data ≠ .cell v
theorem GFix.Ready.gens {Φ : GFix} {i : Nat} {xv : V} {σ : L2.St} {H : Hp} {s : Shared} (r : Φ.Ready i xv σ H s) {G : Array GenState} (hG : AllBare G) : Φ.Ready i xv σ H { s with gens := G } :=
  ⟨inv_gens r.I hG, r.w, r.hn, r.ha, r.ga, r.loc, r.len, r.px⟩
theorem GFix.Ready.side {Φ : GFix} {i : Nat} {xv : V} {σ : L2.St} {H : Hp} {s : Shared} (ok : Φ.Ok) (r : Φ.Ready i xv σ H s) : Inv (Φ.gx s H) (Φ.pg s) (Φ.SG i xv) H s := by
  refine gx_inv r.I ok.calm ok.kind ok.nc ok.cl ok.hbz (Nat.lt_trans ok.lt (Heap.lt_size r.ga)) ok.hf r.hn r.loc r.len fun p hp => ?_
  rcases List.mem_cons.mp hp with hp | hp
  · rw [hp]
    exact ⟨r.ga, r.ha, Nat.ne_of_gt ok.lt, fun z => absurd (ok.hf _ z) (Nat.not_lt.mpr (Nat.le_of_lt ok.lt)), ok.cell⟩
  · obtain ⟨hb, e⟩ := of_pinsAt hp
    obtain ⟨hn, o, e2, hc⟩ := r.px p.1 hb
    obtain rfl : o = p.2 := Option.some.inj (e2.symm.trans e)
    exact ⟨e, hn, (ok.hex p.1 hb).1, (ok.hex p.1 hb).2, hc⟩
def tupOf (st : Nat × Nat) : HO := .tup [.int st.1, .int st.2]
/-- an item is handed out -/
def GFix.Y (Φ : GFix) : Protocol := fun n s₀ v s1 kap => ∃ i xv σ H, i + n = Φ.L.length ∧ Φ.Ready i xv σ H s₀ ∧ ∃ σg H1 u st, Inv (Φ.gx s₀ H) (Φ.pg s₀) σg H1 s1 ∧ v = .ref u ∧ Φ.L[i]? = some st ∧ Same H H1 ∧ H u = none ∧ H1 u = some (tupOf st) ∧
  Φ.loc (Φ.SG (i + 1) (.ref u)) s1.heap ∧ (Φ.SG (i + 1) (.ref u)).length = Φ.N.length ∧ ∀ s' σ' H', Φ.Ready (i + 1) (.ref u) σ' H' s' → kap (.send .none) s'
def GFix.F (Φ : GFix) : Nat → Shared → Shared → Prop := fun n s₀ s1 => ∃ i xv σ H, i + n = Φ.L.length + 1 ∧ Φ.Ready i xv σ H s₀ ∧ Φ.L.length ≤ i ∧ ∃ σg H1, Inv (Φ.gx s₀ H) (Φ.pg s₀) σg H1 s1 ∧ Same H H1
abbrev GFix.R (Φ : GFix) : GenEnd := fun n s₀ r s1 => ((r = .ok (.ret .none) ∨ r = .ok .next) ∧ Φ.F n s₀ s1) ∨ ∃ e, r = .error e ∧ (fun (_ : Value) (_ : Shared) => False) e s1
/-- the generator's run: what the body's proof gives -/
def GFix.Body (Φ : GFix) (body : List Stmt) : Prop := ∀ s σ H xv, Φ.Ready 0 xv σ H s → Seg (model Φ.Xc.prog Φ.Xc.w) Φ.Xc.A.in1 Φ.R Φ.Y (Φ.L.length + 1) s (.func body Φ.env) ((model Φ.Xc.prog Φ.Xc.w).den (.func body Φ.env)) [] s
theorem Around.over_nil {A : Around} {body : List Stmt} {env : Env} : A.over (.func body env) [] = A.deeper env := over_func
/-- a while whose body begins with a yield, the last statement of a generator's body -/
theorem seg_yloop {Φ : GFix} (ok : Φ.Ok) {body : List Stmt} {test e : Expr} {rest : List Stmt} {yp ypos : Pos} {tc : TT} {te : TE} {tr : TS} (HD : Nat → L2.St → Hp → Hp → Prop)
    (hc : ∀ s H, PT (Φ.gx s H) test tc) (he : ∀ s H, PE (Φ.gx s H) e te) (hrest : ∀ s H, PSs (Φ.gx s H) rest tr)
    (h1 : ∀ i xv σc H σ H1, Φ.W i xv σc H → HD i σ H H1 → tc σ H1 fun b H2 => if b = true then te σ H2 fun y H3 => ∃ st u, y = .ref u ∧ Φ.L[i]? = some st ∧ Same H H3 ∧ H u = none ∧ H3 u = some (tupOf st) ∧ σ = Φ.SG (i + 1) (.ref u) else Φ.L.length ≤ i ∧ Same H H2)
    (h2 : ∀ i xv σc H, Φ.W (i + 1) xv σc H → tr { nx := fun σ' H' => HD (i + 1) σ' H H', rt := fun _ _ => False } (Φ.SG (i + 1) xv) H)
    (hlen : ∀ i xv, (Φ.SG i xv).length = Φ.N.length)
    {K : Flow → Sem PySem.Fin} {J : Value → Sem PySem.Fin} {gd : Bool → Bool} {lv : List Value → List Value} {p : Pos} (hgd : gd false = false)
    (hK : ∀ n s₀ s1, Φ.F n s₀ s1 → Seg (model Φ.Xc.prog Φ.Xc.w) Φ.Xc.A.in1 Φ.R Φ.Y n s₀ (.func body Φ.env) (K .next) [] s1)
    (hco : Φ.env.scope.isCoroutine = false) (hi : interactive Φ.env = false) :
    ∀ (m i : Nat) (s₀ s1 : Shared) (σc σ : L2.St) (H H1 : Hp) (xv : V), i + m = Φ.L.length → Φ.Ready i xv σc H s₀ → Inv (Φ.gx s₀ H) (Φ.pg s₀) σ H1 s1 → HD i σ H H1 →
      Seg (model Φ.Xc.prog Φ.Xc.w) Φ.Xc.A.in1 Φ.R Φ.Y (m + 1) s₀ (.whileLoop test (.Expr (.Yield (some e) yp) ypos :: rest) [] Φ.env) ((model Φ.Xc.prog Φ.Xc.w).den (.whileLoop test (.Expr (.Yield (some e) yp) ypos :: rest) [] Φ.env))
        (.ret (fun r => ((match r with | .ok f => (.pure f : Sem Flow) | .error e => .raise e).onRaise (cameBack Φ.env)).wrap K J gd lv) none (gd false) (lv []) (.func body Φ.env) p [] :: []) s1 := by
  have ov : ∀ (kk : Result → Sem PySem.Fin), Φ.Xc.A.in1.over (.whileLoop test (.Expr (.Yield (some e) yp) ypos :: rest) [] Φ.env) (.ret kk none (gd false) (lv []) (.func body Φ.env) p [] :: []) = Φ.Xc.A.in1.deeper Φ.env := fun kk => (over_loop rfl rfl).trans over_func
  intro m
  induction m using Nat.strongRecOn with
  | ind m ih =>
    intro i s₀ s1 σc σ H H1 xv him hR I hd
    refine seg_whileLoop ?_
    rw [ov]
    refine wpAny_mono ((hc s₀ H).run _ s1 σ H1 _ I (h1 i xv σc H σ H1 hR.w hd)) (fun b s2 hb => ?_) fun x s2 hx => (show False from hx).elim
    obtain ⟨H2, I2, q2⟩ := hb
    cases b with
    | false =>
      have q3 : Φ.L.length ≤ i ∧ Same H H2 := by
        have := q2
        rw [if_neg Bool.false_ne_true] at this
        exact this
      rw [if_neg Bool.false_ne_true]
      refine seg_execs_nil ?_
      exact seg_leaf (.ok .next) (hK (m + 1) s₀ s2 ⟨i, xv, σc, H, by omega, hR, q3.1, σ, H2, I2, q3.2⟩)
    | true =>
      rw [if_pos rfl] at q2 ⊢
      refine seg_execs_cons ?_
      refine seg_Expr_Yield ?_ rfl ?_ ?_ hco hi
      · rfl
      · show (gd false || false) = false
        rw [hgd]
        rfl
      rw [ov]
      refine wpAny_mono ((he s₀ H).run _ s2 σ H2 _ I2 q2) (fun v s3 hv => ?_) fun x s3 hx => (show False from hx).elim
      obtain ⟨y, H3, I3, rv, st, u, rfl, hL, s3', hu, hu3, hσ⟩ := hv
      have ev : v = Value.ref u := rv
      intro kap hk
      have lt : i < Φ.L.length := (List.getElem?_eq_some_iff.mp hL).1
      refine ⟨i, xv, σc, H, him, hR, σ, H3, u, st, I3, ev, hL, s3', hu, hu3, by rw [← hσ]; exact I3.loc, hlen _ _, fun s' σ' H' hR' => hk .none s' ?_⟩
      -- woken again
      obtain ⟨m', rfl⟩ : ∃ k, m = k + 1 := ⟨m - 1, by omega⟩
      have I4 := hR'.side ok
      show Seg _ _ _ _ (m' + 1) s' _ ((execs rest Φ.env).wrap _ _ _ _) _ s'
      refine seg_wrap ?_
      rw [ov]
      refine wpAny_mono ((hrest s' H').run _ s' _ H' _ I4 (h2 i (.ref u) σ' H' hR'.w)) (fun fl s5 hf => ?_) fun x s5 hx => (show False from hx).elim
      cases fl with
      | next =>
        obtain ⟨σ5, H5, I5, q5⟩ := hf
        exact seg_again rfl (ih m' (Nat.lt_succ_self _) (i + 1) s' s5 σ' σ5 H' H5 (.ref u) (by omega) hR' I5 q5)
      | brk => obtain ⟨_, _, _, q⟩ := hf; exact q.elim
      | cont => obtain ⟨_, _, _, q⟩ := hf; exact q.elim
      | ret v => obtain ⟨_, _, _, _, _, q⟩ := hf; exact q.elim
end
/-! ### the body of route, woken again and again -/
section
open PyProof.Rows GenW
def routeSG (x : Addr) (hs dy lim : Nat) : Nat → V → L2.St
  | 0, _ => [some (.ref x), some (.int hs), some (.int dy), some (.int lim), none, none]
  | i + 1, xv => [some (.ref x), some (.int hs), some (.int dy), some (.int lim), some xv, some (.int i)]
def routeΦ (Xc : Cx) (pins : List (Addr × Obj)) (f : Addr) (cd : Value) (n0 a : Addr) (go : Obj) (x : Addr) (hs dy lim : Nat) (L : List (Nat × Nat)) (W : Nat → V → L2.St → Hp → Prop) (ex : List Addr := []) : GFix :=
  { Xc := Xc, pins := pins, N := N_Net_route, qual := "Net.route", scope := defScope s_Net_route, f := f, cd := cd, n0 := n0, a := a, go := go, L := L, W := W, SG := routeSG x hs dy lim, ex := ex }
variable {P : Program} {w : World} {K : PySem.W.Frag} {mg : Str → Option Value} {base : Heap}
theorem route_body {C : Addr} {fS : Addr} {fdS : FuncData} {Xc : Cx} {pins : List (Addr × Obj)} {f : Addr} {cd : Value} {n0 a : Addr} {go : Obj} {x t : Addr} {p h hs dy lim : Nat} {os : List Od} {F : List Addr} {W : Nat → V → L2.St → Hp → Prop} {ex : List Addr}
    (T : NetT Xc.K C) (DL : Df Xc.prog Xc.w Xc.K Xc.mg Xc.base "check_letter" 4 P_check_letter (spLetter C)) (GS : FnOk Xc.prog Xc.w Xc.K Xc.mg Xc.base CX0 2 fS fdS P_Net_stop_after (spStop C)) (mS : Meth Xc.K C "stop_after" fS) (bS : Binds Xc.K fdS P_Net_stop_after [])
    (hr : Room 6 Xc.A) (nok : NetOk p h os) (hh : hs < h) (hd : dy ≤ 1000000000000000000) (ok : (routeΦ Xc pins f cd n0 a go x hs dy lim (way p os lim (hs, dy)) W ex).Ok)
    (hW : ∀ i xv σ H, W i xv σ H → NetAt C H x p h os t F ∧ ∀ j, i = j + 1 → ∃ st, (way p os lim (hs, dy))[j]? = some st ∧ StopAt H xv st) :
    (routeΦ Xc pins f cd n0 a go x hs dy lim (way p os lim (hs, dy)) W ex).Body (defBody s_Net_route) := by
  obtain ⟨fL, fdL, gL, kL, bL, GL⟩ := DL
  have hp : 0 < p := nok.p1
  have hrA : Room 4 (Xc.A.in1.deeper (envOfC "Net.route" (defScope s_Net_route) n0 f cd)) := hr.in1.deeper _
  have hr1 : Room 2 (Xc.A.in1.deeper (envOfC "Net.route" (defScope s_Net_route) n0 f cd)) := hrA.mono (by decide)
  have ndR : N_Net_route.Nodup := gsc_route.nd
  let HD : Nat → L2.St → Hp → Hp → Prop := fun i σ H H1 => Same H H1 ∧ i ≤ lim ∧ ∃ (v : V) (cur : Option (Nat × Nat)), σ = [some (.ref x), some (.int hs), some (.int dy), some (.int lim), some v, some (.int i)] ∧
    (way p os lim (hs, dy)).drop i = rest p os (lim - i) cur ∧ (∀ st, cur = some st → st.1 < h ∧ ∃ u, v = .ref u ∧ H u = none ∧ H1 u = some (tupOf st)) ∧ (cur = none → v = .non)
  intro s σ H xv hR
  have I0 := hR.side ok
  refine seg_func ?_
  -- check_letter(self, house, day)
  refine seg_execs_cons (seg_plain over_func rfl (X := (routeΦ Xc pins f cd n0 a go x hs dy lim (way p os lim (hs, dy)) W ex).gx s H) (ps_expr (pe_call GL hrA (by rfl) gL kL bL .nil pass0 (pa_cons (pv 0) (pa_cons (pv 1) (pa_cons (pv 2) pa_nil))))) I0
    (fun σ' H' => σ' = [some (.ref x), some (.int hs), some (.int dy), some (.int lim), none, none] ∧ H' = H) ?_ fun σ1 H1 s1 I1 q1 => ?_)
  · exact ⟨_, rfl, _, rfl, _, rfl, x, t, p, h, hs, dy, os, F, rfl, (hW 0 xv σ H hR.w).1, hh, hd, rfl, rfl⟩
  obtain ⟨rfl, rfl⟩ := q1
  -- stop = (house, day)
  refine seg_execs_cons (seg_plain over_func rfl (X := (routeΦ Xc pins f cd n0 a go x hs dy lim (way p os lim (hs, dy)) W ex).gx s H1) (ps_set (i := 4) ndR rfl (.inl rfl) (pe_tup (pa_cons (pv 1) (pa_cons (pv 2) pa_nil)))) I1
    (fun σ' H' => ∃ u, σ' = [some (.ref x), some (.int hs), some (.int dy), some (.int lim), some (.ref u), none] ∧ H1 u = none ∧ H' = upd H1 u (tupOf (hs, dy))) ?_ fun σ2 H2 s2 I2 q2 => ?_)
  · exact ⟨_, rfl, _, rfl, (by show 2 ≤ sizeLine; decide), fun u nu => ⟨u, rfl, nu, rfl⟩⟩
  obtain ⟨u, rfl, nu, rfl⟩ := q2
  -- count = 0
  refine seg_execs_cons (seg_plain over_func rfl (X := (routeΦ Xc pins f cd n0 a go x hs dy lim (way p os lim (hs, dy)) W ex).gx s H1) (ps_set (i := 5) ndR rfl (.inl rfl) pe_int) I2
    (fun σ' H' => σ' = [some (.ref x), some (.int hs), some (.int dy), some (.int lim), some (.ref u), some (.int (0 : Nat))] ∧ H' = upd H1 u (tupOf (hs, dy))) ⟨rfl, rfl⟩ fun σ3 H3 s3 I3 q3 => ?_)
  obtain ⟨rfl, rfl⟩ := q3
  -- the loop
  refine seg_execs_cons (seg_While fun pq => ?_)
  refine seg_yloop (Φ := routeΦ Xc pins f cd n0 a go x hs dy lim (way p os lim (hs, dy)) W ex) ok HD
    (tr := tSeq (tAug 5 (tC (.int 1)) rAdd) (tAsg (tMeth C "stop_after" (spStop C) [] E0 (tVar 0) (tCons (tOp (rIxT Xc.K) (tVar 4) (tC (.int 0))) (tCons (tOp (rIxT Xc.K) (tVar 4) (tC (.int 1))) tNil))) (gName 4)))
    (fun s H => PW.pt (pw_and (pt_cmpR op_notN (pv 4) pe_non (nomark _)) (pw_and1 (pt_cmpR op_lt (pv 5) (pv 3) (nomark _)))))
    (fun s H => pv 4)
    (fun s H => pss_cons (ps_aug (i := 5) ndR rfl (.inl rfl) pe_int ip_add) (pss_one (ps_set (i := 4) ndR rfl (.inl rfl) (pe_meth (pv 0) T.cl mS GS hr1 bS .nil pass0 (pa_cons (pe_ix ix_tup (pv 4) pe_int (fun _ _ => rfl)) (pa_cons (pe_ix ix_tup (pv 4) pe_int (fun _ _ => rfl)) pa_nil))))))
    ?_ ?_ ?_ rfl ?_ rfl rfl (way p os lim (hs, dy)).length 0 s s3 σ _ H1 _ xv (Nat.zero_add _) hR I3 ⟨same_upd nu, Nat.zero_le _, .ref u, some (hs, dy), rfl, rfl, fun st e => ?_, fun e => by cases e⟩
  · rintro i xv' σc H σ' H' hw ⟨s1', hi, v, cur, rfl, hdr, hcur, hnon⟩
    refine ⟨_, rfl, rfl, _, rfl, ?_⟩
    cases cur with
    | none =>
      rw [hnon rfl]
      refine iteF ?_
      show (way p os lim (hs, dy)).length ≤ i ∧ Same H H'
      exact ⟨List.drop_eq_nil_iff.mp hdr, s1'⟩
    | some st =>
      obtain ⟨hs1, u1, rfl, hu0, hu1⟩ := hcur st rfl
      refine iteT ⟨_, rfl, _, rfl, _, _, rfl, rfl, _, rfl, ?_⟩
      by_cases c : (i : Int) < lim
      · rw [decide_eq_true c]
        have e1 : lim - i = (lim - i - 1) + 1 := by omega
        rw [e1, rest_succ] at hdr
        have hL : (way p os lim (hs, dy))[i]? = some st := by
          have := congrArg (fun l => l[0]?) hdr
          simp only [List.getElem?_drop, Nat.add_zero] at this
          exact this
        exact ⟨.ref u1, rfl, st, u1, rfl, hL, s1', hu0, hu1, rfl⟩
      · rw [decide_eq_false c]
        have e1 : lim - i = 0 := by omega
        rw [e1, rest_zero] at hdr
        exact ⟨List.drop_eq_nil_iff.mp hdr, s1'⟩
  · intro i xv' σc H hw
    obtain ⟨Nt, hst⟩ := hW _ _ _ _ hw
    obtain ⟨st, hL, u1, rfl, hu1⟩ := hst i rfl
    have hil : i < (way p os lim (hs, dy)).length := (List.getElem?_eq_some_iff.mp hL).1
    have hlim := way_len p os lim (hs, dy)
    have hdr := way_drop hL
    have e1 : lim - i = (lim - (i + 1)) + 1 := by omega
    rw [e1, show way p os (lim - (i + 1) + 1) st = rest p os (lim - (i + 1) + 1) (some st) from rfl, rest_succ] at hdr
    have hsth : st.1 < h := way_house nok hh _ (List.mem_of_getElem? hL)
    obtain ⟨dx, fl, as, e0, hx, _⟩ := id Nt
    refine ⟨_, rfl, _, _, rfl, rfl, ?_⟩
    refine ⟨_, rfl, x, dx, _, rfl, hx, nf_no (by decide +kernel) (by decide +kernel) (by decide +kernel) (by decide +kernel), _, rfl, u1, _, 0, _, rfl, rfl, SqT.of hu1, atI_nat (j := 0) rfl, _, rfl, u1, _, 1, _, rfl, rfl, SqT.of hu1, atI_nat (j := 1) rfl, ?_⟩
    refine ⟨x, t, p, h, st.1, st.2, os, F, rfl, Nt, hp, hsth, fun H2 v s2 hv => ?_⟩
    refine ⟨s2, by omega, v, hop p os st, rfl, ?_, fun st' e => ?_, fun e => ?_⟩
    · have := congrArg (List.drop 1) hdr
      rw [List.drop_drop] at this
      exact this
    · rw [show hop p os (st.1, st.2) = some st' from e] at hv
      obtain ⟨y, f1, f2, f3⟩ := hv
      exact ⟨hop_house nok e, y, f1, f2, f3⟩
    · rw [show hop p os (st.1, st.2) = none from e] at hv
      exact hv
  · intro i xv'
    cases i <;> rfl
  · intro n s₀ s1 hF
    refine seg_execs_nil ?_
    exact seg_end (.ok (.ret .none)) (.inl ⟨.inl rfl, hF⟩)
  · cases e
    exact ⟨hh, u, rfl, nu, upd_same⟩
end
/-! ### for stop in net.route(house, day, limit): .. -/
section
open PyProof.Rows GenW
def tForR (C : Addr) (to : TE) (t : TA) (g : TG) (tb : TS) : TS := fun D σ H => to σ H fun xv H1 => ∃ x dx fs, xv = .ref x ∧ H1 x = some (.ins C dx fs) ∧ fs.lookup ("route" : Str) = none ∧ t σ H1 fun vs H2 =>
  ∃ (t : Addr) (p h hs dy lim : Nat) (os : List Od) (F : List Addr), vs = [.int hs, .int dy, .int lim] ∧ NetAt C H2 x p h os t F ∧ NetOk p h os ∧ hs < h ∧ dy ≤ 1000000000000000000 ∧
  ∃ W : Nat → V → L2.St → Hp → Prop, W 0 .non σ H2 ∧ ∀ i xv σ H, W i xv σ H → NetAt C H x p h os t F ∧ (∀ j, i = j + 1 → ∃ st, (way p os lim (hs, dy))[j]? = some st ∧ StopAt H xv st) ∧
    ((way p os lim (hs, dy)).length ≤ i → ∀ H1, Same H H1 → D.nx σ H1) ∧
    ∀ st u H1, (way p os lim (hs, dy))[i]? = some st → Same H H1 → H u = none → H1 u = some (tupOf st) → g (.ref u) σ H1 fun σ2 H2 => tb { D with nx := W (i + 1) (.ref u), ct := W (i + 1) (.ref u), bk := D.nx } σ2 H2
theorem route_kinds : ∀ y ∈ (defScope s_Net_route).names, y.2 ≠ .cell ∧ y.2 ≠ .free := by decide +kernel
theorem route_nocell : NoCell (defScope s_Net_route) := fun _ => ⟨fun e => (route_kinds _ (PySem.mem_of_lookup e)).1 rfl, fun e => (route_kinds _ (PySem.mem_of_lookup e)).2 rfl⟩
theorem ps_for_route {Xc : Cx} {C fR fS : Addr} {fdR fdS : FuncData} {o e : Expr} {es : List Expr} {body : List Stmt} {to : TE} {t : TA} {tb : TS} {j : Nat} {y : Str} {py apos cpos pos : Pos} {pl : Sem Bool}
    (hp : PassesOwn (model Xc.prog Xc.w) Xc.A Xc.env Xc.xe) (hc : Xc.calm = true) (ccl : Xc.env.cells = []) (hr : Room 6 Xc.A) (T : NetT Xc.K C) (FR : Fun Xc.K "route" "Net.route" s_Net_route fR fdR) (mR : Meth Xc.K C "route" fR) (bR : Binds Xc.K fdR P_Net_route [])
    (DL : Df Xc.prog Xc.w Xc.K Xc.mg Xc.base "check_letter" 4 P_check_letter (spLetter C)) (GS : FnOk Xc.prog Xc.w Xc.K Xc.mg Xc.base CX0 2 fS fdS P_Net_stop_after (spStop C)) (mS : Meth Xc.K C "stop_after" fS) (bS : Binds Xc.K fdS P_Net_stop_after [])
    (ho : PE Xc o to) (ha : PA Xc (e :: es) t) (hN : Xc.N.Nodup) (hj : Xc.N[j]? = some y) (hy : Xc.env.scope.names.lookup y = some .local) (hb : PSsg Xc body tb)
    (hst : starEach (e :: es) Xc.env = (false, eval e Xc.env) :: starEach es Xc.env) (hpl : (backTo cpos (starEach es Xc.env)).any (·.1) = false)
    (ht : eval (.Call (.Attribute o "route" apos) (e :: es) [] cpos) Xc.env = (do let ov ← eval o Xc.env; standAt apos.atName; let (fv, fst) ← holding [ov] (getMethod ov "route" pl); callWith cpos fv fst (backTo cpos (starEach (e :: es) Xc.env)) (backToKw cpos (keywordEach [] Xc.env))))
    (hs0 : ∀ z, foldedSetIterable (.Call (.Attribute o "route" apos) (e :: es) [] cpos) Xc.env z = pure z) :
    PS Xc (.For (.Name y py) (.Call (.Attribute o "route" apos) (e :: es) [] cpos) body [] pos) (tForR C to t (gName j) tb) := by
  refine ⟨fun pins s σ H D I h => ?_⟩
  refine wpAny_For ?_ hs0
  refine PySem.W.methodCall_KW (pl := pl) (thn (ho.run pins s σ H _ I h) fun u0 sa ⟨xv, Ha, Ia, ra, x, dx, fs, ex, ex2, lk, q⟩ => ?_) ht
  subst ex
  obtain rfl : u0 = Value.ref x := ra
  refine getmeth_ok Ia ex2 T.cl mR lk ?_
  refine PySem.W.callWith_K (first := [.ref x]) (h₀ := Xc.base) I.ok.mod.kin mR.kp (thn (ha.run cpos pins sa σ Ha _ Ia q) fun us sb ⟨vs, Hb, Ib, rb, q2⟩ => ⟨Ib.kIn, ?_⟩) hst hpl
  obtain ⟨t0, p, h, hs, dy, lim, os, F, rfl, Nt, nok, hh, hd, W, w0, step⟩ := q2
  obtain ⟨oc, od, kV, doc, pm, an, cdv, ct, osl, rfl, lkR, hcd⟩ := FR.ex
  have hlu : (Value.ref x :: us).length = P_Net_route.length := by
    have := rb.length
    show us.length + 1 = 4
    rw [← this]
    rfl
  have hlu2 : (Value.ref x :: us ++ []).length = P_Net_route.length := by rw [List.append_nil]; exact hlu
  refine wpAny_call (codeAny_mono (gen_new (vs := [.ref x, .int hs, .int dy, .int lim]) lkR hcd gsc_route Ib hr (by simpa using bR sb (.ref x :: us) Ib.kIn hlu2) (.cons rfl rb) rfl) fun r sc hq => ?_)
  cases r with
  | error e => exact hq.elim
  | ok fl =>
    cases fl with
    | next => exact hq.elim
    | brk => exact hq.elim
    | cont => exact hq.elim
    | ret u =>
      obtain ⟨a, g, rfl, lt, hgen, hgs, hos, hbare, hkp, hloc, oN, hoN, hcN⟩ := hq
      obtain ⟨go, nm, qn, hgo, hgc, hgd, hgsl⟩ := id hgen
      have isg : ∀ {hx : Heap}, hx.get? a = some go → hx.IsGen a g := fun e => ⟨go, nm, qn, e, hgc, hgd, hgsl⟩
      have glt : g < sc.gens.size := (Array.getElem?_eq_some_iff.mp hgs).1
      refine wpAny_pyIter_gen hgen ?_
      have frlt : ∀ b ∈ frs Xc.stack, b < sb.heap.objs.size := fun b hb => by
        obtain ⟨_, o2, ho2, _⟩ := Ib.stack.mem hb
        exact Heap.lt_size ho2
      have fsub : ∀ b ∈ Xc.fs, b ∈ frs Xc.stack := fun b hm => by
        have hm2 : b ∈ frs Xc.outer := hm
        rcases Ib.ok.stk with e | ⟨e, _⟩
        · rw [e]
          exact hm2
        · rw [e]
          unfold frs at hm2 ⊢
          obtain ⟨ev, q1, q2⟩ := List.mem_filterMap.mp hm2
          exact List.mem_filterMap.mpr ⟨ev, List.mem_cons_of_mem _ q1, q2⟩
      let Φ : GFix := routeΦ Xc pins fR cdv sb.heap.objs.size a go x hs dy lim (way p os lim (hs, dy)) W
      have ok : Φ.Ok := { calm := hc, kind := gsc_route.kind, nc := route_nocell, cl := rfl, hbz := Nat.le_trans Ib.ok.bsz Ib.sz, hex := fun b hb => absurd hb List.not_mem_nil, hf := frlt, lt := lt, cell := fun v z => by have z2 : go.data = .cell v := z; rw [hgd] at z2; cases z2 }
      have h0' : Xc.s_0.heap.objs.size ≤ sb.heap.objs.size := Ib.sz
      have hL' : Xc.env.locals < sb.heap.objs.size := Ib.lt
      have hp' : ∀ p ∈ Xc.pn ++ pins, p.1 < sb.heap.objs.size := fun p hp => Heap.lt_size (Ib.pin p hp).1
      have hW : ∀ i xv σ H, W i xv σ H → NetAt C H x p h os t0 F ∧ ∀ j, i = j + 1 → ∃ st, (way p os lim (hs, dy))[j]? = some st ∧ StopAt H xv st := fun i xv σ H hw => ⟨(step i xv σ H hw).1, (step i xv σ H hw).2.1⟩
      have body0 : Φ.Body (defBody s_Net_route) := route_body T DL GS mS bS hr nok hh hd ok hW
      have R0 : Φ.Ready 0 .non σ Hb sc := ⟨Ib.call' (ch := []) hos (Un.kept hkp) (Ib.hok.kept hkp) hbare (fun b z => by simp at z), w0, Ib.hok.fresh (Nat.le_refl _), Ib.hok.fresh (Nat.le_of_lt lt), hgo, hloc, rfl, fun b hb => absurd hb List.not_mem_nil⟩
      have go0 : (GenState.fresh (.func (defBody s_Net_route) Φ.env)).Goes (model Xc.prog Xc.w) Xc.A.in1 Φ.R Φ.Y (Φ.L.length + 1) (.send .none) (sc.setGen g .running) :=
        ⟨rfl, body0 _ σ Hb .non (R0.gens (G := (sc.setGen g .running).gens) (allBare_setGen hbare rfl))⟩
      refine codeAny_forLoop_any (fun m s' => ∃ i xv σ' H' gs, i + m = Φ.L.length ∧ Φ.Ready i xv σ' H' s' ∧ s'.gens[g]? = some gs ∧ gs.Goes (model Xc.prog Xc.w) Xc.A.in1 Φ.R Φ.Y (m + 1) (.send .none) (s'.setGen g .running)) ?_ Φ.L.length ⟨0, .non, σ, Hb, _, Nat.zero_add _, R0, hgs, go0⟩
      rintro m s3 ⟨i, xv, σ3, H3, gs, him, hR, hgs3, hgo3⟩
      have glt3 : g < s3.gens.size := (Array.getElem?_eq_some_iff.mp hgs3).1
      refine wpAny_passesOwn hp (wpAny_gsz (n := g + 1) glt3 (next_genG (A := Xc.A) (F := Φ.F) (Er := fun _ _ => False) hr.hd hR.I.nolimit (by have := hr.dp; omega) (isg hR.ga) hgs3 hgo3 (fun v s1 gs' hb1 hY hsz => ?_) (fun s1 hF h' hkk _ => ?_) fun e s1 he => he.elim))
      · -- an item
        obtain ⟨i', xv', σ', H', him', hR', σg, Hg, u, st, J, rfl, hL, sm, hu, hu1, hlN, hlen, hk⟩ := hY
        have lti : i' < Φ.L.length := (List.getElem?_eq_some_iff.mp hL).1
        have him2 : i' + m = Φ.L.length := him'
        obtain ⟨k, rfl⟩ : ∃ k, m = k + 1 := ⟨m - 1, by omega⟩
        have pa := J.pin (a, go) (List.mem_append_right _ List.mem_cons_self)
        refine wpAny_passesOwn hp (go_of (s := s1.setGen g gs') pa.1 hgc hgd (by decide) ?_)
        have hG : AllBare (s1.setGen g gs').gens := allBare_setGen J.bare hb1
        have I5 : Inv Xc pins σ' Hg (s1.setGen g gs') := gx_back hR'.I J ccl h0' hL' hp' hG
        obtain ⟨mN, ⟨o1, es1, ep1, ho1, hd1, _⟩, _⟩ := id J.loc
        have I5p : Inv Xc (pins ++ [(sb.heap.objs.size, o1), (a, go)]) σ' Hg (s1.setGen g gs') := by
          refine ⟨I5.ok, I5.os, I5.bare, I5.base, I5.loc, I5.cell, I5.free, I5.freeC, fun p0 hp0 => ?_, I5.hok, I5.len⟩
          rw [← List.append_assoc] at hp0
          rcases List.mem_append.mp hp0 with z | z
          · exact I5.pin p0 z
          · rcases List.mem_cons.mp z with z | z
            · rw [z]
              refine ⟨ho1, J.free, Nat.ne_of_gt hL', fun hm => absurd (ok.hf _ (fsub _ hm)) (Nat.lt_irrefl _), fun v e => by rw [hd1] at e; cases e⟩
            · rw [List.mem_singleton.mp z]
              refine ⟨pa.1, pa.2.1, Nat.ne_of_gt (Nat.lt_trans hL' lt), fun hm => absurd (ok.hf a (fsub _ hm)) (Nat.not_lt.mpr (Nat.le_of_lt lt)), ok.cell⟩
        refine wpAny_passesOwn hp (wpAny_assign_Name (gstore I5p hN hj hy (show RelV (.ref u) (.ref u) from rfl) fun s6 I6 e6 => ?_))
        have q6 := (step i' xv' σ' H' hR'.w).2.2.2 st u Hg hL sm hu hu1
        refine wpAny_passesOwn hp (thn (hb.run (s1.setGen g gs').gens _ s6 _ Hg _ I6 e6 q6) fun f s7 ⟨q7, e7⟩ => ?_)
        have again : ∀ {σ7 : L2.St} {H7 : Hp}, Inv Xc (pins ++ [(sb.heap.objs.size, o1), (a, go)]) σ7 H7 s7 → W (i' + 1) (.ref u) σ7 H7 → ∃ m', m' < k + 1 ∧ ∃ i xv σ' H' gs, i + m' = Φ.L.length ∧ Φ.Ready i xv σ' H' s7 ∧ s7.gens[g]? = some gs ∧ gs.Goes (model Xc.prog Xc.w) Xc.A.in1 Φ.R Φ.Y (m' + 1) (.send .none) (s7.setGen g .running) := by
          intro σ7 H7 I7 w7
          have pn7 := I7.pin (sb.heap.objs.size, o1) (by simp)
          have pa7 := I7.pin (a, go) (by simp)
          have R7 : Φ.Ready (i' + 1) (.ref u) σ7 H7 s7 := ⟨I7.unpinned, w7, pn7.2.1, pa7.2.1, pa7.1, hlN.keep ok.cl (fun o eo => by have eo2 : o1 = o := Option.some.inj (ho1.symm.trans eo); rw [← eo2]; exact pn7.1), hlen, fun b hb => absurd hb List.not_mem_nil⟩
          refine ⟨k, Nat.lt_succ_self _, i' + 1, .ref u, σ7, H7, gs', by omega, R7, ?_, hk _ σ7 H7 (R7.gens (G := (s7.setGen g .running).gens) (allBare_setGen I7.bare rfl))⟩
          rw [e7]
          refine setGen_at ?_
          have q : (s1.setGen g gs').gens.size = s1.gens.size := setGen_size _ _ _
          have hsz' : g + 1 ≤ (s1.setGen g gs').gens.size := hsz
          omega
        cases f with
        | next => obtain ⟨σ7, H7, I7, w7⟩ := q7; exact again I7 w7
        | cont => obtain ⟨σ7, H7, I7, w7⟩ := q7; exact again I7 w7
        | brk => obtain ⟨σ7, H7, I7, w7⟩ := q7; exact ⟨σ7, H7, I7.unpinned, w7⟩
        | ret v => obtain ⟨x7, σ7, H7, I7, r7, w7⟩ := q7; exact ⟨x7, σ7, H7, I7.unpinned, r7, w7⟩
      · -- the end
        obtain ⟨i', xv', σ', H', hi', hR', hLi, σg, Hg, J, sm⟩ := hF
        have I5 : Inv Xc pins σ' Hg (s1.setGen g .finished) := gx_back hR'.I J ccl h0' hL' hp' (allBare_setGen J.bare rfl)
        have I6 : Inv Xc pins σ' Hg { s1.setGen g .finished with heap := h' } := I5.kept (t' := s1.toks) hkk
        exact wpAny_execs_nil ⟨σ', Hg, I6, (step i' xv' σ' H' hR'.w).2.2.1 hLi Hg sm⟩
end
/-! ### [elt for a, b in net.route(house, day, limit)]: the block's side -/
section
open PyProof.Rows GenW
/-- targets that leave the generators alone -/
structure PGg (X : Cx) (target : Expr) (t : TG) : Prop where
  run : ∀ (G : Array GenState) (pins : List (Addr × Obj)) (s : Shared) (σ : L2.St) (H : Hp) (v : V) (u : Value) (Q : L2.St → Hp → Prop), Inv X pins σ H s → s.gens = G → RelV v u → t v σ H Q →
    wpAny (model X.prog X.w) X.A (assign target X.env u) (fun _ s' => (∃ σ' H', Inv X pins σ' H' s' ∧ Q σ' H') ∧ s'.gens = G) X.xe s
theorem gg_tup2 {X : Cx} {i j : Nat} {x y : Str} {p1 p2 pos : Pos} {k} (hc : X.calm = true) (hN : X.N.Nodup) (hi : X.N[i]? = some x) (hj : X.N[j]? = some y) (hx : X.env.scope.names.lookup x = some .local) (hy : X.env.scope.names.lookup y = some .local) :
    PGg X (.Tuple [.Name x p1, .Name y p2] k pos) (gTup X.K 2 (gCons (gName i) (gCons (gName j) gNil))) := by
  refine ⟨fun G pins s σ H v u Q I eg r hw => ?_⟩
  obtain ⟨a, xs, e1, hq, hl, v1, r1, e2, v2, r2, e3, e4, hw⟩ := hw
  subst e1 e2 e3 e4
  cases r
  obtain ⟨its, rv, ht, hz⟩ := I.tuple hq
  refine assign_Tuple_tuple (I.ok.hd hc) ht (by rw [List.size_toArray, ← rv.length]; rfl) rfl fun h' hx' => ?_
  have I1 : Inv X pins σ H { s with heap := h' } := I.kept (t' := s.toks) fun b o e => hx' b o (Nat.ne_of_lt (Heap.lt_size e)) e
  cases rv with
  | cons ra rr =>
    cases rr with
    | cons rb rn =>
      cases rn
      refine assignInOrder_cons (wpAny_assign_Name (gstore I1 hN hi hx ra fun s2 I2 e2 => ?_))
      refine assignInOrder_cons (wpAny_assign_Name (gstore I2 hN hj hy rb fun s3 I3 e3 => ?_))
      exact assignInOrder_nil ⟨⟨_, _, I3, hw⟩, e3.trans (e2.trans eg)⟩
theorem ge_add {X : Cx} {a b : Expr} {t1 t2 : TE} {pos : Pos} (h1 : PEg X a t1) (h2 : PEg X b t2) : PEg X (.BinOp a .Add b pos) (tOp (rI0 fun i j => .int (i + j)) t1 t2) := by
  refine ⟨fun G pins s σ H Q I eg h => ?_⟩
  refine wpAny_BinOp (thn (h1.run G pins s σ H _ I eg h) fun v sa ⟨⟨x, Ha, Ia, ra, qa⟩, ega⟩ => thn (h2.run G pins sa σ Ha _ Ia ega qa) fun u sb ⟨⟨y, Hb, Ib, rb, qb⟩, egb⟩ => ?_)
  obtain ⟨m, n, rfl, rfl, q⟩ := qb
  obtain ⟨tk, rfl⟩ := ra
  obtain ⟨tk2, rfl⟩ := rb
  exact add_int ⟨⟨.int (m + n), Hb, Ib.tok _, ⟨_, rfl⟩, q⟩, egb⟩
/-- xs[i] of a list, the generators left alone -/
theorem ge_ixL {X : Cx} {a b : Expr} {t1 t2 : TE} {pos : Pos} (h1 : PEg X a t1) (h2 : PEg X b t2) (hs : PlainIx b) : PEg X (.Subscript a b pos) (tOp (rIxL X.K) t1 t2) := by
  refine ⟨fun G pins s σ H Q I eg h => ?_⟩
  refine Subscript_ (thn (h1.run G pins s σ H _ I eg h) fun v sa ⟨⟨x, Ha, Ia, ra, qa⟩, ega⟩ => thn (h2.run G pins sa σ Ha _ Ia ega qa) fun u sb ⟨⟨y, Hb, Ib, rb, qb⟩, egb⟩ => ?_)
  obtain ⟨p, xs, i, z, rfl, rfl, hq, he, q⟩ := qb
  cases ra
  obtain ⟨t, rfl⟩ := rb
  obtain ⟨its, r, pl, hz⟩ := Ib.list hq
  obtain ⟨j, h1, h2, h3, h4, h5⟩ := atI_get he
  obtain ⟨w, ew, rw'⟩ := r.get h2
  have hl := r.length
  have hn := line63
  have fin : EPg X G pins σ Q w sb := ⟨⟨z, Hb, Ib, rw', q⟩, egb⟩
  by_cases h0 : 0 ≤ i
  · have hj : i.toNat = j := by
      rw [seqIndex_of h0 h5] at h1
      exact Option.some.inj h1
    exact item_listR pl.isList h0 (by omega) (by rw [hj]; simpa using ew) fin (hs _ _)
  · have hj : (i + (its.toArray.size : Int)).toNat = j := by
      rw [seqIndex_neg (by omega) h4] at h1
      rw [List.size_toArray, ← hl]
      exact Option.some.inj h1
    exact subscriptTail_builtinR (x := w) pl.isList.typeIs slot_list_getitem.lookup
      (wpAny_getItem_list_neg (Q := fun r s' => r = w ∧ EPg X G pins σ Q r s') pl.isList (by omega) (by rw [List.size_toArray] <;> omega) (by omega) (by rw [hj]; simpa using ew) ⟨rfl, fin⟩) (hs _ _)
theorem app_okG {X : Cx} {pins : List (Addr × Obj)} {σ : L2.St} {H : Hp} {s : Shared} {E : Value → Shared → Prop} {D : Addr} {xs : List V} {y : V} {v : Value} {Q : Value → Shared → Prop} (I : Inv X pins σ H s) (hD : H D = some (.lst xs)) (hz : xs.length < sizeLine) (r : RelV y v)
    (h : ∀ s', Inv X pins σ (upd H D (.lst (xs ++ [y]))) s' → s'.gens = s.gens → Q .none s') : wpAny (model X.prog X.w) X.A (call (.builtin "list.append") [.ref D, v]) Q E s := by
  obtain ⟨hz', its, n, ri, e⟩ := I.hok D _ hD
  have hl := ri.length
  refine append_at (hsz := by rw [List.size_toArray]; omega) e fun h' sb ho' => ?_
  refine h { s with heap := h' } (I.write (t' := s.toks) (by rw [hD]; trivial) (.inl rfl) (fun b u hb q => (sb.2 b hb).trans q) ⟨_, ho'⟩ ⟨by rw [List.length_append]; exact hz, its ++ [v], n + 1, ri.append (.cons r .nil), ?_⟩) rfl
  rw [ho']
  simp
/-- back from the generator's side to a block's that began behind the generator's making (D: the block's new list) -/
theorem gx_backB {Xc : Cx} {N : List Str} {qual : Str} {scope : Scope} {f : Addr} {cd : Value} {n0 : Nat} {σb σg : L2.St} {H H1 : Hp} {s s1 : Shared} {pg : List (Addr × Obj)} {D : Addr} {acc : List V} {oL : Obj}
    (I : Inv Xc [] σb H s) (J : Inv (gx Xc N qual scope f cd n0 s H) pg σg H1 s1) (hpn : Xc.pn = []) (hso : Xc.stack = Xc.outer)
    (h0 : ∀ b o, Xc.s_0.heap.get? b = some o → b ∈ Xc.ex ∨ b < n0 ∨ b = D) (hD0 : Xc.H_0 D ≠ none) (hD : H1 D = some (.lst acc))
    (hC : ∀ x c, Xc.env.cells.lookup x = some c → c < n0) (hL : (Xc.env.locals, oL) ∈ pg) (hLs : s.heap.get? Xc.env.locals = some oL) {G : Array GenState} (hG : AllBare G) : Inv Xc [] σb H1 { s1 with gens := G } := by
  have u : Un (frs Xc.stack) [] H H1 (cutH s.heap n0) s1.heap := J.base
  rw [hso] at u
  have cut : ∀ {b : Addr} {o : Obj}, b < n0 → s.heap.get? b = some o → (cutH s.heap n0).get? b = some o := fun {b o} lt e => (cutH_get lt).trans e
  have old : ∀ {b : Addr} {o : Obj}, Xc.s_0.heap.get? b = some o → Xc.H_0 b = none → b ∉ Xc.ex → b < n0 := fun {b o} e n hx => by
    rcases h0 b o e with z | z | z
    · exact absurd z hx
    · exact z
    · rw [z] at n
      exact absurd n hD0
  have pL := J.pin (Xc.env.locals, oL) (List.mem_append_right _ hL)
  obtain ⟨m, ⟨oL', es, ep, hoL, rL⟩, hl⟩ := id I.loc
  have cellK : ∀ x c, Xc.env.cells.lookup x = some c → ∀ v, s.heap.IsCell c v → s1.heap.IsCell c v := fun x c e v ⟨o, ho, hd⟩ => by
    obtain ⟨sl, q⟩ := u.any (cut (hC x c e) ho) (I.freeC x c e) (by simp)
    exact ⟨_, q, hd⟩
  refine ⟨I.ok, J.os.trans I.os, hG, ⟨fun b o e n hb hx => ?_, fun b o e n hb hx => ?_, fun b o e n hx => ?_, fun b o e hx => ?_, fun b xs e => u.tups b xs (I.base.tups b xs e), fun b o v e => u.frzs b o v (I.base.frzs b o v e), fun b ps e => ?_⟩, ⟨m, ?_, fun i x v q1 q2 q3 => ?_⟩, fun x c e => ?_, pL.2.1, fun x c e => ?_, fun p q => ?_, J.hok, I.len⟩
  · exact u.keep b o (cut (old e n hx) (I.base.keep b o e n hb hx)) (I.base.free b o e n hx) hb (by simp)
  · obtain ⟨sl, e1⟩ := I.base.slot b o e n hb hx
    obtain ⟨sl2, e2⟩ := u.any (cut (old e n hx) e1) (I.base.free b o e n hx) (by simp)
    exact ⟨sl2, e2⟩
  · obtain ⟨o', e1⟩ := I.base.there b o e hx
    exact u.free b o' (cut (old e n hx) e1) (I.base.free b o e n hx) (by simp)
  · obtain ⟨o', e1⟩ := I.base.there b o e hx
    rcases h0 b o e with z | z | z
    · exact absurd z hx
    · exact u.there b o' (cut z e1) (by simp)
    · rw [z]
      obtain ⟨_, its, n, ri, e⟩ := J.hok D _ hD
      exact ⟨_, e⟩
  · obtain ⟨m1, e1⟩ := I.base.tbls b ps e
    obtain ⟨m2, e2⟩ := u.tbls b _ e1
    exact ⟨m1 ++ m2, by rw [e2, Array.append_assoc]⟩
  · obtain rfl : oL' = oL := Option.some.inj (hoL.symm.trans hLs)
    exact ⟨_, es, ep, pL.1, rL⟩
  · obtain ⟨z, r, lk⟩ := hl i x v q1 q2 q3
    refine ⟨z, r, ?_⟩
    rcases lk with k | ⟨k1, c, k2, k3⟩
    · exact .inl k
    · exact .inr ⟨k1, c, k2, cellK x c k2 _ k3⟩
  · obtain ⟨v, z⟩ := I.cell x c e
    exact ⟨v, cellK x c e v z⟩
  · obtain ⟨v, o, ho, hd⟩ := I.cell x c e
    exact u.free c o (cut (hC x c e) ho) (I.freeC x c e) (by simp)
  · rw [hpn] at q
    exact absurd q (by simp)
end
section
open PyProof.Rows GenW
def tLcR (C : Addr) (to : TE) (t : TA) (g : TG) (te : TE) (vs : List Nat) : TE := fun σ H Q => to σ H fun xv H1 => ∃ x dx fs, xv = .ref x ∧ H1 x = some (.ins C dx fs) ∧ fs.lookup ("route" : Str) = none ∧ t σ H1 fun us H2 =>
  ∃ (t : Addr) (p h hs dy lim : Nat) (os : List Od) (F : List Addr), us = [.int hs, .int dy, .int lim] ∧ NetAt C H2 x p h os t F ∧ NetOk p h os ∧ hs < h ∧ dy ≤ 1000000000000000000 ∧
  ∀ D, H2 D = none → ∃ W : Nat → V → Hp → Prop, W 0 .non (upd H2 D (.lst [])) ∧ ∀ i xv H, W i xv H → NetAt C H x p h os t F ∧ (∃ acc, H D = some (.lst acc)) ∧ (∀ j, i = j + 1 → ∃ st, (way p os lim (hs, dy))[j]? = some st ∧ StopAt H xv st) ∧
    ((way p os lim (hs, dy)).length ≤ i → ∀ H1, Same H H1 → Q (.ref D) H1) ∧
    ∀ st u H1, (way p os lim (hs, dy))[i]? = some st → Same H H1 → H u = none → H1 u = some (tupOf st) → g (.ref u) (wipe σ vs) H1 fun σ2 H2 => wipe σ2 vs = wipe σ vs ∧ te σ2 H2 fun y H4 => ∃ acc, H4 D = some (.lst acc) ∧ acc.length < sizeLine ∧ W (i + 1) (.ref u) (upd H4 D (.lst (acc ++ [y])))
theorem lcR_core {X : Cx} {pins : List (Addr × Obj)} {s : Shared} {σ : L2.St} {H : Hp} {Q : VK} {use : Option (Value → Sem Unit)} {Qf : Value → Shared → Prop} {pos' : Pos} {C fR fS : Addr} {fdR fdS : FuncData} {o e elt tg : Expr} {es : List Expr} {scope : Scope} {own : List (Str × Nat)} {to : TE} {t : TA} {g : TG} {te : TE} {apos cpos pos : Pos} {pl : Sem Bool}
    (hc : X.calm = true) (hN : X.N.Nodup) (hr : Room 6 X.A) (T : NetT X.K C) (FR : Fun X.K "route" "Net.route" s_Net_route fR fdR) (mR : Meth X.K C "route" fR) (bR : Binds X.K fdR P_Net_route [])
    (DL : Df X.prog X.w X.K X.mg X.base "check_letter" 4 P_check_letter (spLetter C)) (GS : FnOk X.prog X.w X.K X.mg X.base CX0 2 fS fdS P_Net_stop_after (spStop C)) (mS : Meth X.K C "stop_after" fS) (bS : Binds X.K fdS P_Net_stop_after [])
    (ho : PE X o to) (ha : PA X (e :: es) t) (ok : BlkOk X.N X.env.scope scope own) (noc : ∀ y ∈ scope.names, y.2 ≠ .cell)
    (hg : ∀ (s : Shared) (H : Hp) (C : Addr) (cl : List (Str × Addr)) (fp : List Addr), PGg (X.blk s H scope (compEnvC scope cl C X.env) fp) tg g)
    (he : ∀ (s : Shared) (H : Hp) (C : Addr) (cl : List (Str × Addr)) (fp : List Addr), PEg (X.blk s H scope (compEnvC scope cl C X.env) fp) elt te)
    (hst : starEach (e :: es) X.env = (false, eval e X.env) :: starEach es X.env) (hpl : (backTo cpos (starEach es X.env)).any (·.1) = false)
    (ht : eval (.Call (.Attribute o "route" apos) (e :: es) [] cpos) X.env = (do let ov ← eval o X.env; standAt apos.atName; let (fv, fst) ← holding [ov] (getMethod ov "route" pl); callWith cpos fv fst (backTo cpos (starEach (e :: es) X.env)) (backToKw cpos (keywordEach [] X.env))))
    (hs0 : ∀ z, foldedSetIterable (.Call (.Attribute o "route" apos) (e :: es) [] cpos) X.env z = pure z)
    (I : Inv X pins σ H s) (hyp : tLcR C to t g te (own.map (·.2)) σ H Q)
    (hRR : ∀ D C s' m H', Inv X pins σ H' s' → Q (.ref D) H' → s'.heap.Ns C m → FpOk X pins H' C → compPost (model X.prog X.w) X.A X.xe use Qf (.ref D) C (.ok .next) s') :
    wpAny (model X.prog X.w) X.A (comprehension (.ListComp elt [⟨tg, .Call (.Attribute o "route" apos) (e :: es) [] cpos, [], 0⟩] scope pos) scope X.env pos' (newList []) false (eval (.Call (.Attribute o "route" apos) (e :: es) [] cpos) X.env) use) Qf X.xe s := by
  have hfree : ∀ y ∈ scope.names, y.2 = .free → ∃ c, X.env.cells.lookup y.1 = some c := fun y hy e => by
    rcases ok.free y hy e with k | k
    · exact I.ok.has _ (.inl k)
    · exact I.ok.has _ (.inr k)
  refine wpAny_comprehension_free (use := use) rfl hs0 (closure_ok hfree) ok.kind (fun y hy e => by rw [ok.uniq y hy, e]) ?_
  refine PySem.W.methodCall_KW (pl := pl) (thn (ho.run pins s σ H _ I hyp) fun u0 sa ⟨xv, Ha, Ia, ra, x, dx, fs, ex, ex2, lk, q⟩ => ?_) ht
  subst ex
  obtain rfl : u0 = Value.ref x := ra
  refine getmeth_ok Ia ex2 T.cl mR lk ?_
  refine PySem.W.callWith_K (first := [.ref x]) (h₀ := X.base) I.ok.mod.kin mR.kp (thn (ha.run cpos pins sa σ Ha _ Ia q) fun us sb ⟨vs, Hb, Ib, rb, q2⟩ => ⟨Ib.kIn, ?_⟩) hst hpl
  obtain ⟨t0, p, h, hs, dy, lim, os, F, rfl, Nt, nok, hh, hd, qD⟩ := q2
  obtain ⟨oc, od, kV, doc, pm, an, cdv, ct, osl, rfl, lkR, hcd⟩ := FR.ex
  have hlu : (Value.ref x :: us).length = P_Net_route.length := by
    have := rb.length
    show us.length + 1 = 4
    rw [← this]
    rfl
  have hlu2 : (Value.ref x :: us ++ []).length = P_Net_route.length := by rw [List.append_nil]; exact hlu
  refine wpAny_call (codeAny_mono (gen_new (vs := [.ref x, .int hs, .int dy, .int lim]) lkR hcd gsc_route Ib hr (by simpa using bR sb (.ref x :: us) Ib.kIn hlu2) (.cons rfl rb) rfl) fun r sc hq => ?_)
  cases r with
  | error e => exact hq.elim
  | ok fl =>
    cases fl with
    | next => exact hq.elim
    | brk => exact hq.elim
    | cont => exact hq.elim
    | ret u =>
      obtain ⟨a, g', rfl, lt, hgen, hgs, hos, hbare, hkp, hloc, oN, hoN, hcN⟩ := hq
      obtain ⟨go, nm, qn, hgo, hgc, hgd, hgsl⟩ := id hgen
      have isg : ∀ {hx : Heap}, hx.get? a = some go → hx.IsGen a g' := fun e => ⟨go, nm, qn, e, hgc, hgd, hgsl⟩
      refine wpAny_pyIter_gen hgen ?_
      refine wpAny_newObj_type (newEnv_comp ?_) (by show 0 ≤ sizeLine; decide)
      have I2 : Inv X pins σ Hb sc := Ib.call' (ch := []) hos (Un.kept hkp) (Ib.hok.kept hkp) hbare (fun b z => by simp at z)
      generalize hn0 : sb.heap.objs.size = n0 at *
      generalize hD : sc.heap.objs.size = D
      have an : a < D := by rw [← hD]; exact Heap.lt_size hgo
      have nD : n0 < D := Nat.lt_trans lt an
      have hDn : Hb D = none := I2.hok.fresh (Nat.le_of_eq hD)
      obtain ⟨W, w0, step⟩ := qD D hDn
      -- the new list
      generalize hs3 : ({ sc with heap := sc.heap.push { cls := .type "list", data := .seq ([] : List Value).toArray } } : Shared) = s3
      have I3 : Inv X pins σ (upd Hb D (.lst [])) s3 := by
        rw [← hs3]
        refine I2.laid (t' := sc.toks) (fun b o e => Heap.get?_push_of_some _ e) (Nat.le_of_eq hD) ⟨Nat.zero_le _, [], 0, .nil, ?_⟩
        rw [← hD]
        exact Heap.get?_push_size _ rfl
      have h3 : s3.heap = sc.heap.push { cls := .type "list", data := .seq ([] : List Value).toArray } := by rw [← hs3]
      have z3 : s3.heap.objs.size = D + 1 := by rw [h3, Heap.size_push, hD]
      have k3 : ∀ b o, sc.heap.get? b = some o → s3.heap.get? b = some o := fun b o e => by rw [h3]; exact Heap.get?_push_of_some _ e
      have mfp : ∀ b, b ∈ List.range' n0 (D - n0) ↔ n0 ≤ b ∧ b < D := fun b => by
        rw [List.mem_range'_1]
        omega
      have f3 : ∀ b ∈ List.range' n0 (D - n0), FpOk X pins (upd Hb D (.lst [])) b ∧ b < s3.heap.objs.size := fun b hb => by
        obtain ⟨hb1, hb2⟩ := (mfp b).mp hb
        refine ⟨Ib.fpOk (by rw [hn0]; exact hb1) ?_, by rw [z3]; exact Nat.lt_succ_of_lt hb2⟩
        rw [upd_ne (Nat.ne_of_lt hb2)]
        exact Ib.hok.fresh (by rw [hn0]; exact hb1)
      generalize hfp : List.range' n0 (D - n0) = fp at f3 mfp
      have I4 := block_start I3 ok hN f3
      have pg := hg s3 (upd Hb D (.lst [])) s3.heap.objs.size (cellsFrom (s3.heap.objs.size + 1) scope.names (cloFrom X.env.cells scope.names [])) fp
      have pe := he s3 (upd Hb D (.lst [])) s3.heap.objs.size (cellsFrom (s3.heap.objs.size + 1) scope.names (cloFrom X.env.cells scope.names [])) fp
      show codeAny _ _ (.compStart (.ListComp elt [⟨tg, .Call (.Attribute o "route" apos) (e :: es) [] cpos, [], 0⟩] scope pos) 0 (.ref a) (.ref D) (compEnvC scope (cellsFrom (s3.heap.objs.size + 1) scope.names (cloFrom X.env.cells scope.names [])) s3.heap.objs.size X.env)) (compPost (model X.prog X.w) X.A X.xe use Qf (.ref D) s3.heap.objs.size) { s3 with heap := pushCells (s3.heap.push { cls := .type "dict", data := .dict #[] }) scope.names }
      have hcells : ∀ y c, (compEnvC scope (cellsFrom (s3.heap.objs.size + 1) scope.names (cloFrom X.env.cells scope.names [])) s3.heap.objs.size X.env).cells.lookup y = some c → c < n0 := fun y c e => by
        have e2 : (cellsFrom (s3.heap.objs.size + 1) scope.names (cloFrom X.env.cells scope.names [])).lookup y = some c := e
        rw [← Heap.size_push s3.heap { cls := .type "dict", data := .dict #[] }] at e2
        rcases cells_mem (PySem.mem_of_lookup e2) with hm | ⟨h1, _, _⟩
        · rcases cloFrom_mem hm with hm | ⟨h1, rfl⟩
          · cases hm
          · obtain ⟨c', hc'⟩ := hfree _ h1 rfl
            show (X.env.cells.lookup y).getD 0 < n0
            rw [hc']
            obtain ⟨v, z⟩ := Ib.cell _ _ hc'
            rw [← hn0]
            exact z.lt
        · exact absurd rfl (noc _ h1)
      generalize hce : compEnvC scope (cellsFrom (s3.heap.objs.size + 1) scope.names (cloFrom X.env.cells scope.names [])) s3.heap.objs.size X.env = ce at I4 pg pe hcells ⊢
      have cL : ce.locals = s3.heap.objs.size := by subst hce; rfl
      have H3D : (upd Hb D (.lst [])) D ≠ none := by rw [upd_same]; exact fun z => nomatch z
      have H3n : (upd Hb D (.lst [])) n0 = none := by
        rw [upd_ne (Nat.ne_of_lt nD)]
        exact Ib.hok.fresh (Nat.le_of_eq hn0)
      have H3a : (upd Hb D (.lst [])) a = none := by
        rw [upd_ne (Nat.ne_of_lt an)]
        exact Ib.hok.fresh (by rw [hn0]; exact Nat.le_of_lt lt)
      generalize hH3 : upd Hb D (.lst []) = H3 at I3 I4 pg pe w0 f3 H3D H3n H3a
      generalize hs4 : ({ s3 with heap := pushCells (s3.heap.push { cls := .type "dict", data := .dict #[] }) scope.names } : Shared) = s4 at I4 ⊢
      have k4 : ∀ b o, sc.heap.get? b = some o → s4.heap.get? b = some o := fun b o e => by rw [← hs4]; exact pushCells_keeps _ _ _ _ (Heap.get?_push_of_some _ (k3 b o e))
      have g4 : s4.gens = sc.gens := by rw [← hs4, ← hs3]
      have frlt : ∀ b ∈ frs X.stack, b < n0 := fun b hb => by
        obtain ⟨_, o2, ho2, _⟩ := Ib.stack.mem hb
        rw [← hn0]
        exact Heap.lt_size ho2
      generalize hvs : own.map (·.2) = vs at *
      let Xb : Cx := X.blk s3 H3 scope ce fp
      let Φ : GFix := routeΦ Xb [] fR cdv n0 a go x hs dy lim (way p os lim (hs, dy)) (fun i xv σ' H => σ' = wipe σ vs ∧ W i xv H) [ce.locals]
      have hok : Φ.Ok := { calm := hc, kind := gsc_route.kind, nc := route_nocell, cl := rfl, hbz := by show X.base.objs.size ≤ n0; rw [← hn0]; exact Nat.le_trans Ib.ok.bsz Ib.sz, hex := fun b hb => by
                             obtain rfl : b = ce.locals := List.mem_singleton.mp hb
                             rw [cL, z3]
                             exact ⟨fun z => by have z2 : D + 1 = n0 := z; omega, fun z => Nat.lt_asymm nD (Nat.lt_trans (Nat.lt_succ_self D) (frlt (D + 1) z))⟩,
                           hf := frlt, lt := lt, cell := fun v z => by have z2 : go.data = .cell v := z; rw [hgd] at z2; cases z2 }
      have hW : ∀ i xv σ' H, (σ' = wipe σ vs ∧ W i xv H) → NetAt C H x p h os t0 F ∧ ∀ j, i = j + 1 → ∃ st, (way p os lim (hs, dy))[j]? = some st ∧ StopAt H xv st := fun i xv σ' H hw => ⟨(step i xv H hw.2).1, (step i xv H hw.2).2.2.1⟩
      have body0 : Φ.Body (defBody s_Net_route) := route_body (Xc := Xb) T DL GS mS bS hr nok hh hd hok hW
      have pxOf : ∀ {σ' : L2.St} {H' : Hp} {s' : Shared}, Inv Xb [] σ' H' s' → ∀ b ∈ Φ.ex, H' b = none ∧ ∃ o, s'.heap.get? b = some o ∧ ∀ v, o.data ≠ .cell v := fun {σ' H' s'} I' b hb => by
        obtain rfl : b = ce.locals := List.mem_singleton.mp hb
        obtain ⟨m, ⟨o1, es1, ep1, ho1, hd1, _⟩, _⟩ := id I'.loc
        exact ⟨I'.free, o1, ho1, fun v z => by rw [hd1] at z; cases z⟩
      have R0 : Φ.Ready 0 .non (wipe σ vs) H3 s4 := ⟨I4, ⟨rfl, w0⟩, H3n, H3a, k4 _ _ hgo, hloc.keep rfl (fun o e => k4 _ _ e), rfl, pxOf I4⟩
      have go0 : (GenState.fresh (.func (defBody s_Net_route) Φ.env)).Goes (model X.prog X.w) X.A.in1 Φ.R Φ.Y (Φ.L.length + 1) (.send .none) (s4.setGen g' .running) :=
        ⟨rfl, body0 _ (wipe σ vs) H3 .non (R0.gens (G := (s4.setGen g' .running).gens) (allBare_setGen I4.bare rfl))⟩
      have fsE : Xb.fs = frs X.stack := rfl
      -- back to the block
      have back : ∀ {i : Nat} {xv : V} {σ' σg : L2.St} {H' Hg : Hp} {s0 s1 : Shared} {G : Array GenState}, Φ.Ready i xv σ' H' s0 → Inv (Φ.gx s0 H') (Φ.pg s0) σg Hg s1 → Same H' Hg → AllBare G → Inv Xb [] σ' Hg { s1 with gens := G } := by
        intro i xv σ' σg H' Hg s0 s1 G hR J sm hG
        obtain ⟨acc, hacc⟩ := (step i xv H' hR.w.2).2.1
        obtain ⟨m, ⟨oL, es1, ep1, hoL, hd1, _⟩, _⟩ := id hR.I.loc
        exact gx_backB (D := D) hR.I J rfl rfl (fun b o e => by
          have hb : b < D + 1 := by rw [← z3]; exact Heap.lt_size (show s3.heap.get? b = some o from e)
          by_cases c1 : b < n0
          · exact .inr (.inl c1)
          · by_cases c2 : b = D
            · exact .inr (.inr c2)
            · exact .inl ((mfp b).mpr ⟨Nat.not_lt.mp c1, Nat.lt_of_le_of_ne (Nat.le_of_lt_succ hb) c2⟩)) H3D (sm D _ hacc) hcells (List.mem_cons_of_mem _ (mem_pinsAt (List.mem_singleton.mpr rfl) hoL)) hoL hG
      have glt0 : g' < sc.gens.size := (Array.getElem?_eq_some_iff.mp hgs).1
      have loop : codeAny (model X.prog X.w) X.A (.compLoop (.ListComp elt [⟨tg, .Call (.Attribute o "route" apos) (e :: es) [] cpos, [], 0⟩] scope pos) 0 (.ref a) (.ref D) ce) (compPost (model X.prog X.w) X.A X.xe use Qf (.ref D) s3.heap.objs.size) s4 := by
        refine compLoop_any (fun m s' => ∃ i xv H' gs, i + m = Φ.L.length ∧ Φ.Ready i xv (wipe σ vs) H' s' ∧ s'.gens[g']? = some gs ∧ gs.Goes (model X.prog X.w) X.A.in1 Φ.R Φ.Y (m + 1) (.send .none) (s'.setGen g' .running)) ?_ Φ.L.length ⟨0, .non, H3, _, Nat.zero_add _, R0, by rw [g4]; exact hgs, go0⟩
        rintro m s5 ⟨i, xv, H5, gs, him, hR, hgs5, hgo5⟩
        have glt5 : g' < s5.gens.size := (Array.getElem?_eq_some_iff.mp hgs5).1
        refine wpAny_gsz (n := g' + 1) glt5 (next_genG (A := X.A) (F := Φ.F) (Er := fun _ _ => False) hr.hd hR.I.nolimit (by have := hr.dp; omega) (isg hR.ga) hgs5 hgo5 (fun v s1 gs' hb1 hY hsz => ?_) (fun s1 hF h' hkk _ => ?_) fun e s1 he => he.elim)
        · -- an item
          obtain ⟨i', xv', σ', H', him', hR', σg, Hg, u, st, J, rfl, hL, sm, hu, hu1, hlN, hlen, hk⟩ := hY
          have lti : i' < Φ.L.length := (List.getElem?_eq_some_iff.mp hL).1
          have him2 : i' + m = Φ.L.length := him'
          obtain ⟨k, rfl⟩ : ∃ k, m = k + 1 := ⟨m - 1, by omega⟩
          have pa := J.pin (a, go) (List.mem_append_right _ List.mem_cons_self)
          refine go_of (s := s1.setGen g' gs') pa.1 hgc hgd (by decide) ?_
          have hG : AllBare (s1.setGen g' gs').gens := allBare_setGen J.bare hb1
          have I5 : Inv Xb [] σ' Hg (s1.setGen g' gs') := back hR' J sm hG
          obtain ⟨eσ, hw5⟩ := hR'.w
          obtain ⟨mN, ⟨o1, es1, ep1, ho1, hd1, _⟩, _⟩ := id J.loc
          have hLn : ce.locals ≠ n0 := by rw [cL, z3]; exact fun z => Nat.lt_irrefl D (Nat.lt_trans (Nat.lt_succ_self D) (show D + 1 < D by rw [z]; exact nD))
          have hLa : ce.locals ≠ a := by rw [cL, z3]; exact fun z => Nat.lt_irrefl D (Nat.lt_trans (Nat.lt_succ_self D) (show D + 1 < D by rw [z]; exact an))
          have I5p : Inv Xb ([] ++ [(n0, o1), (a, go)]) σ' Hg (s1.setGen g' gs') := by
            refine I5.pins_of fun p0 hp0 => ?_
            rcases List.mem_cons.mp hp0 with z | z
            · rw [z]
              exact ⟨ho1, J.free, hLn.symm, fun hm => absurd (frlt _ hm) (Nat.lt_irrefl _), fun v e => by rw [hd1] at e; cases e⟩
            · rw [List.mem_singleton.mp z]
              exact ⟨pa.1, pa.2.1, hLa.symm, fun hm => absurd (frlt a hm) (Nat.not_lt.mpr (Nat.le_of_lt lt)), hok.cell⟩
          have q6 := (step i' xv' H' hw5).2.2.2.2 st u Hg hL sm hu hu1
          subst eσ
          refine thnF (pg.run (s1.setGen g' gs').gens _ _ _ Hg (.ref u) (.ref u) _ I5p rfl rfl q6) fun _ s6 ⟨⟨σ6, H6, I6, hw6, q7⟩, e6⟩ => ?_
          refine wpAny_tests_nil ?_
          rw [if_pos rfl]
          refine thnF (pe.run _ _ s6 σ6 H6 _ I6 e6 q7) fun z s7 ⟨⟨yv, H7, I7, r7, acc, hD7, hz7, w7⟩, e7⟩ => ?_
          refine app_okG (X := Xb) I7 hD7 hz7 r7 fun s8 I8 e8 => ?_
          have hl8 : (wipe σ vs).length = σ6.length := by rw [← hw6, wipe_length]
          have I9 : Inv Xb [] (wipe σ vs) (upd H7 D (.lst (acc ++ [yv]))) s8 := (I8.unpinned (pins := [])).weak hl8 fun j v e => by
            rw [← hw6] at e
            exact (wipe_some e).1
          have pn7 := I8.pin (n0, o1) (by simp)
          have pa7 := I8.pin (a, go) (by simp)
          have R7 : Φ.Ready (i' + 1) (.ref u) (wipe σ vs) (upd H7 D (.lst (acc ++ [yv]))) s8 :=
            ⟨I9, ⟨rfl, w7⟩, pn7.2.1, pa7.2.1, pa7.1, hlN.keep hok.cl (fun o eo => by have eo2 : o1 = o := Option.some.inj (ho1.symm.trans eo); rw [← eo2]; exact pn7.1), hlen, pxOf I9⟩
          refine ⟨k, Nat.lt_succ_self _, i' + 1, .ref u, _, gs', by omega, R7, ?_, hk _ _ _ (R7.gens (G := (s8.setGen g' .running).gens) (allBare_setGen I8.bare rfl))⟩
          rw [e8, e7]
          refine setGen_at ?_
          have q : (s1.setGen g' gs').gens.size = s1.gens.size := setGen_size _ _ _
          have hsz' : g' + 1 ≤ (s1.setGen g' gs').gens.size := hsz
          omega
        · -- the end
          obtain ⟨i', xv', σ', H', hi', hR', hLi, σg, Hg, J, sm⟩ := hF
          have I5 : Inv Xb [] σ' Hg (s1.setGen g' .finished) := back hR' J sm (allBare_setGen J.bare rfl)
          have I6 : Inv Xb [] σ' Hg { s1.setGen g' .finished with heap := h' } := I5.kept (t' := s1.toks) hkk
          have qq := (step i' xv' H' hR'.w.2).2.2.2.1 hLi Hg sm
          have I7 : Inv X pins σ Hg { s1.setGen g' .finished with heap := h' } := I3.call' (ch := fp) I6.os I6.base I6.hok I6.bare fun b hb => ⟨(f3 b hb).1.2.2.2.1, (f3 b hb).1.2.1, (f3 b hb).1.2.2.2.2.1, (f3 b hb).1.2.2.2.2.2⟩
          have nC : Hg s3.heap.objs.size = none := by
            have z : Hg ce.locals = none := I6.free
            rw [cL] at z
            exact z
          obtain ⟨m1, hn, _⟩ := I6.loc
          have hn : h'.Ns ce.locals m1 := hn
          rw [cL] at hn
          exact hRR D _ _ m1 Hg I7 qq hn (I3.fpOk (Nat.le_refl _) nC)
      exact codeAny_compStart_list loop (wpAny_pyIter_gen (isg (k4 _ _ hgo)) loop)
theorem pe_lcRoute {X : Cx} {C fR fS : Addr} {fdR fdS : FuncData} {o e elt tg : Expr} {es : List Expr} {scope : Scope} {own : List (Str × Nat)} {to : TE} {t : TA} {g : TG} {te : TE} {apos cpos pos : Pos} {pl : Sem Bool}
    (hc : X.calm = true) (hN : X.N.Nodup) (hr : Room 6 X.A) (T : NetT X.K C) (FR : Fun X.K "route" "Net.route" s_Net_route fR fdR) (mR : Meth X.K C "route" fR) (bR : Binds X.K fdR P_Net_route [])
    (DL : Df X.prog X.w X.K X.mg X.base "check_letter" 4 P_check_letter (spLetter C)) (GS : FnOk X.prog X.w X.K X.mg X.base CX0 2 fS fdS P_Net_stop_after (spStop C)) (mS : Meth X.K C "stop_after" fS) (bS : Binds X.K fdS P_Net_stop_after [])
    (ho : PE X o to) (ha : PA X (e :: es) t) (ok : BlkOk X.N X.env.scope scope own) (noc : ∀ y ∈ scope.names, y.2 ≠ .cell)
    (hg : ∀ (s : Shared) (H : Hp) (C : Addr) (cl : List (Str × Addr)) (fp : List Addr), PGg (X.blk s H scope (compEnvC scope cl C X.env) fp) tg g)
    (he : ∀ (s : Shared) (H : Hp) (C : Addr) (cl : List (Str × Addr)) (fp : List Addr), PEg (X.blk s H scope (compEnvC scope cl C X.env) fp) elt te)
    (hst : starEach (e :: es) X.env = (false, eval e X.env) :: starEach es X.env) (hpl : (backTo cpos (starEach es X.env)).any (·.1) = false)
    (ht : eval (.Call (.Attribute o "route" apos) (e :: es) [] cpos) X.env = (do let ov ← eval o X.env; standAt apos.atName; let (fv, fst) ← holding [ov] (getMethod ov "route" pl); callWith cpos fv fst (backTo cpos (starEach (e :: es) X.env)) (backToKw cpos (keywordEach [] X.env))))
    (hs0 : ∀ z, foldedSetIterable (.Call (.Attribute o "route" apos) (e :: es) [] cpos) X.env z = pure z) :
    PE X (.ListComp elt [⟨tg, .Call (.Attribute o "route" apos) (e :: es) [] cpos, [], 0⟩] scope pos) (tLcR C to t g te (own.map (·.2))) := by
  refine ⟨fun pins s σ H Q I hyp => ?_⟩
  rw [eval_ListComp]
  refine lcR_core hc hN hr T FR mR bR DL GS mS bS ho ha ok noc hg he hst hpl ht hs0 I hyp fun D C s' m H' I' q hn f => ⟨m, hn, fun h'' sb => ?_⟩
  obtain ⟨f0, f1, f2, f3, f4, f5⟩ := f
  exact ⟨.ref D, H', I'.turned (t' := s'.toks) (fun b o hb e => (sb.2 b hb).trans e) f0 f1 f3 f4 f5, rfl, q⟩
/-- name = [..] on one line, the name a local -/
theorem ps_setLcR {X : Cx} {i : Nat} {y : Str} {py spos : Pos} {C fR fS : Addr} {fdR fdS : FuncData} {o e elt tg : Expr} {es : List Expr} {scope : Scope} {own : List (Str × Nat)} {to : TE} {t : TA} {g : TG} {te : TE} {apos cpos pos : Pos} {pl : Sem Bool}
    (hc : X.calm = true) (hN : X.N.Nodup) (hy : X.N[i]? = some y) (hyl : X.env.scope.names.lookup y = some .local)
    (hsw : swapsWith (.ListComp elt [⟨tg, .Call (.Attribute o "route" apos) (e :: es) [] cpos, [], 0⟩] scope pos) (some (.Name y py)) spos.line X.env = pure true) (hr : Room 6 X.A) (T : NetT X.K C) (FR : Fun X.K "route" "Net.route" s_Net_route fR fdR) (mR : Meth X.K C "route" fR) (bR : Binds X.K fdR P_Net_route [])
    (DL : Df X.prog X.w X.K X.mg X.base "check_letter" 4 P_check_letter (spLetter C)) (GS : FnOk X.prog X.w X.K X.mg X.base CX0 2 fS fdS P_Net_stop_after (spStop C)) (mS : Meth X.K C "stop_after" fS) (bS : Binds X.K fdS P_Net_stop_after [])
    (ho : PE X o to) (ha : PA X (e :: es) t) (ok : BlkOk X.N X.env.scope scope own) (noc : ∀ y ∈ scope.names, y.2 ≠ .cell)
    (hg : ∀ (s : Shared) (H : Hp) (C : Addr) (cl : List (Str × Addr)) (fp : List Addr), PGg (X.blk s H scope (compEnvC scope cl C X.env) fp) tg g)
    (he : ∀ (s : Shared) (H : Hp) (C : Addr) (cl : List (Str × Addr)) (fp : List Addr), PEg (X.blk s H scope (compEnvC scope cl C X.env) fp) elt te)
    (hst : starEach (e :: es) X.env = (false, eval e X.env) :: starEach es X.env) (hpl : (backTo cpos (starEach es X.env)).any (·.1) = false)
    (ht : eval (.Call (.Attribute o "route" apos) (e :: es) [] cpos) X.env = (do let ov ← eval o X.env; standAt apos.atName; let (fv, fst) ← holding [ov] (getMethod ov "route" pl); callWith cpos fv fst (backTo cpos (starEach (e :: es) X.env)) (backToKw cpos (keywordEach [] X.env))))
    (hs0 : ∀ z, foldedSetIterable (.Call (.Attribute o "route" apos) (e :: es) [] cpos) X.env z = pure z) :
    PS X (.Assign [.Name y py] (.ListComp elt [⟨tg, .Call (.Attribute o "route" apos) (e :: es) [] cpos, [], 0⟩] scope pos) spos) (tAsg (tLcR C to t g te (own.map (·.2))) (gName i)) := by
  refine ⟨fun pins s σ H D I hyp => ?_⟩
  rw [exec_Assign_Name_used _ _ _ _ hsw]
  refine wpAny_bind (wpAny_standAt (wpAny_bind ?_))
  show wpAny _ X.A (do let _ ← comprehension (.ListComp elt [⟨tg, .Call (.Attribute o "route" apos) (e :: es) [] cpos, [], 0⟩] scope pos) scope X.env (firstIterPos [⟨tg, .Call (.Attribute o "route" apos) (e :: es) [] cpos, [], 0⟩] pos) (newList []) false (eval (.Call (.Attribute o "route" apos) (e :: es) [] cpos) X.env) (some (assign (.Name y py) X.env))) _ _ s
  have hyp : tLcR C to t g te (own.map (·.2)) σ H (fun x H1 => gName i x σ H1 D.nx) := hyp
  refine wpAny_bind (thn (lcR_core (Qf := fun _ s' => SP X pins D .next s') hc hN hr T FR mR bR DL GS mS bS ho ha ok noc hg he hst hpl ht hs0 I hyp fun L C s' m H' I' q hn f => ?_) fun _ s' hq => wpAny_pure (wpAny_pure hq))
  show wpAny _ _ (assign (.Name y py) X.env (.ref L)) _ _ _
  refine wpAny_assign_Name (store_ok2 (v := V.ref L) I' hN hy (.inl hyl) rfl (fun s2 I2 ⟨a, sb, ha⟩ => ?_) (.inr hyl))
  obtain ⟨f0, f1, f2, f3, f4, f5⟩ := f
  have haC : C ≠ a := by
    rcases ha with z | z
    · rw [z]; exact f1
    · exact fun e => f4 y a z e.symm
  refine ⟨m, hn.sameBut sb haC, fun h3 sb3 => ?_⟩
  exact ⟨_, H', I2.turned (t' := s2.toks) (fun b o hb e => (sb3.2 b hb).trans e) f0 f1 f3 f4 f5, q⟩
end
/-! ### a letter followed to its end -/
def plc (p : Nat) (s : Nat × Nat) : Nat × Nat := (s.1, s.2 % p)
/-- the stops up to the first that comes back to an earlier one's place, and that one's index -/
def fol (p : Nat) : List (Nat × Nat) → List (Nat × Nat) → List (Nat × Nat) × Option Nat
  | done, [] => (done, none)
  | done, s :: r => match done.findIdx? (fun t => decide (plc p t = plc p s)) with
    | some b => (done ++ [s], some b)
    | none => fol p (done ++ [s]) r
def folR (p h : Nat) (os : List Od) (st : Nat × Nat) : List (Nat × Nat) × Option Nat := fol p [] (way p os (h * p + 1) st)
def keyOf (p : Nat) (s : Nat × Nat) : List Key := [Sum.inl (s.1 : Int), Sum.inl ((s.2 % p : Nat) : Int)]
def kvsFrom (p : Nat) : Nat → List (Nat × Nat) → List (List Key × V)
  | _, [] => []
  | k, s :: r => (keyOf p s, .int (k : Nat)) :: kvsFrom p (k + 1) r
theorem keyOf_eq {p : Nat} {s t : Nat × Nat} : keyOf p t = keyOf p s ↔ plc p t = plc p s := by
  unfold keyOf plc
  constructor
  · intro h
    have h1 : (t.1 : Int) = s.1 := Sum.inl.inj (List.cons.inj h).1
    have h2 : ((t.2 % p : Nat) : Int) = ((s.2 % p : Nat) : Int) := Sum.inl.inj (List.cons.inj (List.cons.inj h).2).1
    exact Prod.ext (by show t.1 = s.1; omega) (by show t.2 % p = s.2 % p; omega)
  · intro h
    have h1 : t.1 = s.1 := (Prod.mk.inj h).1
    have h2 : t.2 % p = s.2 % p := (Prod.mk.inj h).2
    rw [h1, h2]
theorem kvs_val {p : Nat} {s : Nat × Nat} : ∀ (l : List (Nat × Nat)) (k : Nat), valV (kvsFrom p k l) (keyOf p s) = (l.findIdx? fun t => decide (plc p t = plc p s)).map fun i => V.int ((k + i : Nat) : Int)
  | [], _ => rfl
  | t :: r, k => by
    rw [List.findIdx?_cons]
    unfold kvsFrom valV
    rw [List.find?_cons]
    by_cases c : plc p t = plc p s
    · have c2 : keyOf p t = keyOf p s := keyOf_eq.mpr c
      simp only [c, c2, decide_true, if_true, Option.map_some]
      rfl
    · have c2 : ¬ keyOf p t = keyOf p s := fun z => c (keyOf_eq.mp z)
      simp only [c, c2, decide_false, Bool.false_eq_true, if_false]
      have ih := kvs_val (p := p) (s := s) r (k + 1)
      unfold valV at ih
      rw [ih, Option.map_map]
      congr 1
      funext i
      show V.int ((k + 1 + i : Nat) : Int) = V.int ((k + (i + 1) : Nat) : Int)
      rw [show k + 1 + i = k + (i + 1) by omega]
theorem kvs_len {p : Nat} : ∀ (l : List (Nat × Nat)) (k : Nat), (kvsFrom p k l).length = l.length
  | [], _ => rfl
  | _ :: r, k => by
    show (kvsFrom p (k + 1) r).length + 1 = r.length + 1
    rw [kvs_len r (k + 1)]
theorem kvs_snoc {p : Nat} {s : Nat × Nat} : ∀ (l : List (Nat × Nat)) (k : Nat), kvsFrom p k (l ++ [s]) = kvsFrom p k l ++ [(keyOf p s, .int ((k + l.length : Nat) : Int))]
  | [], _ => rfl
  | t :: r, k => by
    show (keyOf p t, V.int (k : Nat)) :: kvsFrom p (k + 1) (r ++ [s]) = _
    rw [kvs_snoc r (k + 1)]
    show _ = (keyOf p t, V.int (k : Nat)) :: (kvsFrom p (k + 1) r ++ [(keyOf p s, V.int ((k + (r.length + 1) : Nat) : Int))])
    rw [show k + 1 + r.length = k + (r.length + 1) by omega]
theorem putK_new {κ : Type} [DecidableEq κ] {kvs : List (κ × V)} {k : κ} {v : V} (h : valV kvs k = none) : putK kvs k v = kvs ++ [(k, v)] := by
  unfold putK
  have e : (kvs.any fun kv => decide (kv.1 = k)) = false := by
    unfold valV at h
    rw [Option.map_eq_none_iff, List.find?_eq_none] at h
    rw [List.any_eq_false]
    exact h
  rw [e, if_neg Bool.false_ne_true]
theorem pair_last {α β : Type} {F : α → β → Prop} {y : α} {s : β} : ∀ {xs : List α} {l : List β}, Paired F (xs ++ [y]) (l ++ [s]) → F y s
  | [], [], h => by cases h with | cons r _ => exact r
  | [], b :: l, h => by
    cases h with
    | cons _ t =>
      have := t.length
      simp at this
  | a :: xs, [], h => by
    cases h with
    | cons _ t =>
      have := t.length
      simp at this
  | a :: xs, b :: l, h => by
    cases h with
    | cons _ t => exact pair_last t
theorem pair_split {α β : Type} {F : α → β → Prop} {s : β} : ∀ {l : List β} {xs : List α}, Paired F xs (l ++ [s]) → ∃ ys v, xs = ys ++ [v] ∧ Paired F ys l ∧ F v s
  | [], _, h => by
    cases h with
    | cons r t =>
      cases t
      exact ⟨[], _, rfl, .nil, r⟩
  | b :: l, _, h => by
    cases h with
    | cons r t =>
      obtain ⟨ys, v, rfl, h1, h2⟩ := pair_split t
      exact ⟨_ :: ys, v, rfl, .cons r h1, h2⟩
/-- what follow gives: the stops' list, the index -/
def FolAt (H H' : Hp) (r : Addr) (res : List (Nat × Nat) × Option Nat) : Prop := ∃ sl vs, H r = none ∧ H' r = some (.tup [.ref sl, optV res.2]) ∧ H sl = none ∧ H' sl = some (.lst vs) ∧ Paired (StopAt H') vs res.1
abbrev s_follow : Stmt := top 28
abbrev N_follow : List Str := ["net", "house", "day", "stops", "seen", "limit", "stop", "place"]
abbrev P_follow : List Str := ["net", "house", "day"]
theorem sc_follow : FnScope N_follow P_follow (defScope s_follow) := ⟨rfl, rfl, rfl, by decide +kernel, rfl, by decide +kernel, by decide +kernel⟩
def spFollow (C : Addr) : Sp := fun vs H Q _ => ∃ (x t : Addr) (p h hs dy : Nat) (os : List Od) (F : List Addr), vs = [.ref x, .int hs, .int dy] ∧ NetAt C H x p h os t F ∧ NetOk p h os ∧ hs < h ∧ dy ≤ 1000000000000000000 ∧
  ∀ H' r, Same H H' → FolAt H H' r (folR p h os (hs, dy)) → Q (.ref r) H'
section
variable {P : Program} {w : World} {K : PySem.W.Frag} {mg : Str → Option Value} {base : Heap}
theorem ok_follow {f C fR fS : Addr} {fd fdR fdS : FuncData} (F : Fun K "follow" "follow" s_follow f fd) (B : Blt mg) (T : NetT K C) (FR : Fun K "route" "Net.route" s_Net_route fR fdR) (mR : Meth K C "route" fR) (bR : Binds K fdR P_Net_route [])
    (DL : Df P w K mg base "check_letter" 4 P_check_letter (spLetter C)) (GS : FnOk P w K mg base CX0 2 fS fdS P_Net_stop_after (spStop C)) (mS : Meth K C "stop_after" fS) (bS : Binds K fdS P_Net_stop_after []) : FnOk P w K mg base CX0 7 f fd P_follow (spFollow C) := by
  refine F.ok sc_follow (fun vs H Q E h => ?_) (fun cdv A outer s H vs Q E hr h => ?_)
  · obtain ⟨x, t, p, h, hs, dy, os, F, rfl, _⟩ := h
    rfl
  · obtain ⟨x, t, p, h, hs, dy, os, F, rfl, Nt, nok, hh, hd, q⟩ := h
    have hu : (A.deeper (PyProof.Rows.envOfC "follow" (defScope s_follow) s.heap.objs.size f cdv)).units + 1 < cLine := hu_of hr
    refine ⟨_, pss_cons (ps_set (i := 3) sc_follow.nd rfl (.inl rfl) (pe_lst pa_nil)) (pss_cons (ps_set (i := 4) sc_follow.nd rfl (.inl rfl) pe_dnewT)
      (pss_cons (ps_set (i := 5) sc_follow.nd rfl (.inl rfl) (pe_op op_add (pe_op op_mul (pe_fld (pv 0) rfl) (pe_fld (pv 0) rfl)) pe_int))
      (pss_cons (ps_for_route (j := 6) PassesOwn.never rfl rfl hr T FR mR bR DL GS mS bS (pv 0) (pa_cons (pv 1) (pa_cons (pv 2) (pa_cons (pv 5) pa_nil))) sc_follow.nd rfl rfl
        (gss_two (gs_set (i := 7) sc_follow.nd rfl rfl (ge_tup (ga_cons (ge_ixT (gv 6) ge_int (fun _ _ => rfl)) (ga_cons (ge_mod (ge_ixT (gv 6) ge_int (fun _ _ => rfl)) (ge_fld (gv 0) rfl)) ga_nil))))
        (gss_two (gs_append (gv 3) (gv 6))
        (gss_two (gs_if (gt_in hu (gv 7) (gv 4)) (gss_one (gs_ret (ge_tup (ga_cons (gv 3) (ga_cons (ge_get hu (gv 4) (gv 7) (fun _ _ => rfl)) ga_nil))))) gss_nil0)
        (gss_one (gs_put hu (gv 4) (gv 7) (ge_sub (ge_len rfl B.len PySem.boot_len (ga_cons (gv 3) ga_nil)) ge_int) rfl)))))
        rfl rfl rfl (by intro _; rfl))
      (pss_one (ps_ret (pe_tup (pa_cons (pv 3) (pa_cons pe_non pa_nil)))))))), ?_⟩
    obtain ⟨dx, fl, as, eF, hx, hrest⟩ := id Nt
    have p30 := nok.p30; have h10 := nok.h10; have p1 := nok.p1
    refine ⟨Nat.zero_le _, fun sl nsl => ?_⟩
    intro sd nsd
    have s1 := same_upd (o := HO.lst []) nsl
    have s2 := same_upd (o := HO.dT []) nsd
    have s12 := s1.trans s2
    have nsld : sl ≠ sd := ne_of_none (upd_same (H := H)) nsd
    have nsd0 : H sd = none := s1.free nsd
    have Nt2 := Nt.same s12
    obtain ⟨dx2, fl2, as2, _, hx2, _⟩ := id Nt2
    refine ⟨_, rfl, x, C, dx2, _, _, rfl, hx2, T.cl, T.nH, nf_ho, _, rfl, x, C, dx2, _, _, rfl, hx2, T.cl, T.nP, nf_pe, _, _, rfl, rfl, .inl ⟨by omega, by omega⟩, _, _, rfl, rfl, ?_⟩
    have el : (h : Int) * (p : Int) + 1 = ((h * p + 1 : Nat) : Int) := by rw [Int.natCast_add, Int.natCast_mul]; rfl
    refine ⟨_, rfl, x, dx2, _, rfl, hx2, nf_no (by decide +kernel) (by decide +kernel) (by decide +kernel) (by decide +kernel), _, rfl, _, rfl, _, rfl, ?_⟩
    have hlim : h * p + 1 ≤ 1000 := by
      have : h * p ≤ 10 * 30 := Nat.mul_le_mul h10 p30
      omega
    refine ⟨t, p, h, hs, dy, h * p + 1, os, F, ?_, Nt2, nok, hh, hd, ?_⟩
    · show [V.int hs, V.int dy, V.int ((h : Int) * (p : Int) + 1)] = _
      rw [el]
    have hwl := way_len p os (h * p + 1) (hs, dy)
    generalize hL : way p os (h * p + 1) (hs, dy) = L at hwl
    have nslF : sl ∉ F := Nt.new nsl
    have nsdF : sd ∉ F := Nt.new nsd0
    refine ⟨fun i xv σ' H' => ∃ vs x6 x7, i ≤ L.length ∧ σ' = [some (.ref x), some (.int hs), some (.int dy), some (.ref sl), some (.ref sd), some (.int ((h : Int) * (p : Int) + 1)), x6, x7] ∧ NetAt C H' x p h os t F ∧ H' sl = some (.lst vs) ∧ Paired (StopAt H') vs (L.take i) ∧
        H' sd = some (.dT (kvsFrom p 0 (L.take i))) ∧ fol p (L.take i) (L.drop i) = folR p h os (hs, dy) ∧ Same H H' ∧ ∀ j, i = j + 1 → ∃ st, L[j]? = some st ∧ StopAt H' xv st,
      ⟨[], none, none, Nat.zero_le _, rfl, Nt2, (upd_ne nsld).trans upd_same, .nil, upd_same, by unfold folR; rw [hL]; rfl, s12, fun j e => by cases e⟩, ?_⟩
    rintro i xv σ' H' ⟨vs, x6, x7, hi, rfl, N', hsl, hvs, hsd, hfol, sH, hlast⟩
    refine ⟨N', hlast, fun hLi H1 s3 => ?_, fun st u H1 hst s3 nu hu1 => ?_⟩
    · -- delivered
      have e1 : L.take i = L := List.take_of_length_le hLi
      have e2 : L.drop i = [] := List.drop_eq_nil_iff.mpr hLi
      rw [e1, e2] at hfol
      refine ⟨_, rfl, (by show 2 ≤ sizeLine; decide), fun r nr => ?_⟩
      have s4 := same_upd (o := HO.tup [.ref sl, .non]) nr
      have hres : folR p h os (hs, dy) = (L, none) := hfol.symm
      refine q _ r (sH.trans (s3.trans s4)) ?_
      rw [hres]
      rw [e1] at hvs
      exact ⟨sl, vs, sH.free (s3.free nr), upd_same, nsl, s4 _ _ (s3 _ _ hsl), StopsAt.keep (tk_of (s3.trans s4)) hvs⟩
    · have lt : i < L.length := (List.getElem?_eq_some_iff.mp hst).1
      have hdr : L.drop i = st :: L.drop (i + 1) := by
        rw [List.drop_eq_getElem_cons lt]
        congr 1
        exact (List.getElem?_eq_some_iff.mp hst).2
      have htk : L.take (i + 1) = L.take i ++ [st] := by
        rw [List.take_add_one, hst]
        rfl
      have hu1' : H1 u = some (.tup [.int st.1, .int st.2]) := hu1
      obtain ⟨dx3, fl3, as3, _, hx3, _⟩ := id (N'.same s3)
      -- place
      refine ⟨_, rfl, u, _, 0, _, rfl, rfl, SqT.of hu1', atI_nat (j := 0) rfl, _, rfl, u, _, 1, _, rfl, rfl, SqT.of hu1', atI_nat (j := 1) rfl, _, rfl, x, C, dx3, _, _, rfl, hx3, T.cl, T.nP, nf_pe, _, _, rfl, rfl, by omega, (by show 2 ≤ sizeLine; decide), fun pl npl => ?_⟩
      have s4 : Same H1 (upd H1 pl (.tup [.int st.1, .int ((st.2 : Int).fmod (p : Int))])) := same_upd npl
      have hpl : (upd H1 pl (.tup [.int st.1, .int ((st.2 : Int).fmod (p : Int))])) pl = some (.tup ((keyOf p st).map kV)) := by
        rw [upd_same, fmod_nat]
        rfl
      -- stops.append(stop)
      have hsl4 := s4 _ _ (s3 _ _ hsl)
      have hsd4 := s4 _ _ (s3 _ _ hsd)
      refine ⟨_, rfl, sl, _, rfl, hsl4, _, rfl, vs, hsl4, ?_, ?_⟩
      · have := hvs.length
        rw [List.length_take] at this
        exact small1000 (by omega)
      have nslpl : pl ≠ sl := (ne_of_none (s3 _ _ hsl) npl).symm
      have nsdpl : pl ≠ sd := (ne_of_none (s3 _ _ hsd) npl).symm
      have k5 : TupKeep (upd H1 pl (.tup [.int st.1, .int ((st.2 : Int).fmod (p : Int))])) (upd (upd H1 pl (.tup [.int st.1, .int ((st.2 : Int).fmod (p : Int))])) sl (.lst (vs ++ [.ref u]))) := TupKeep.lst hsl4
      have N5 := ((N'.same s3).same s4).but (d := sl) .upd k5 nslF
      have hsd5 : (upd (upd H1 pl (.tup [.int st.1, .int ((st.2 : Int).fmod (p : Int))])) sl (.lst (vs ++ [.ref u]))) sd = some (.dT (kvsFrom p 0 (L.take i))) := by rw [upd_ne nsld.symm]; exact hsd4
      have hpl5 := k5 _ _ hpl
      have hvs5 : Paired (StopAt (upd (upd H1 pl (.tup [.int st.1, .int ((st.2 : Int).fmod (p : Int))])) sl (.lst (vs ++ [.ref u])))) (vs ++ [.ref u]) (L.take (i + 1)) := by
        rw [htk]
        exact Paired.snoc (StopsAt.keep k5 (StopsAt.keep (tk_of (s3.trans s4)) hvs)) ⟨u, rfl, k5 _ _ (s4 _ _ hu1')⟩
      have sH5 : Same H (upd (upd H1 pl (.tup [.int st.1, .int ((st.2 : Int).fmod (p : Int))])) sl (.lst (vs ++ [.ref u]))) := fun b o e => by
        rw [upd_ne (ne_of_none e nsl)]
        exact s4 _ _ (s3 _ _ (sH _ _ e))
      have hsl5 : (upd (upd H1 pl (.tup [.int st.1, .int ((st.2 : Int).fmod (p : Int))])) sl (.lst (vs ++ [.ref u]))) sl = some (.lst (vs ++ [.ref u])) := upd_same
      generalize (upd (upd H1 pl (.tup [.int st.1, .int ((st.2 : Int).fmod (p : Int))])) sl (.lst (vs ++ [.ref u]))) = H5 at N5 hsd5 hpl5 hvs5 sH5 hsl5
      -- if place in seen
      have hval := kvs_val (p := p) (s := st) (L.take i) 0
      refine ⟨_, rfl, _, rfl, sd, _, keyOf p st, pl, rfl, rfl, hsd5, hpl5, ?_⟩
      rw [hdr] at hfol
      unfold fol at hfol
      cases hf : (L.take i).findIdx? (fun t => decide (plc p t = plc p st)) with
      | some b =>
        rw [hf] at hval
        simp only [hf] at hfol
        rw [hval]
        refine iteT ⟨_, rfl, _, rfl, _, rfl, sd, _, keyOf p st, pl, _, rfl, rfl, hsd5, hpl5, hval, (by show 2 ≤ sizeLine; decide), fun r nr => ?_⟩
        have s6 := same_upd (o := HO.tup [.ref sl, .int ((0 + b : Nat) : Int)]) nr
        refine q _ r (sH5.trans s6) ?_
        rw [← hfol]
        refine ⟨sl, _, sH5.free nr, ?_, nsl, s6 _ _ hsl5, ?_⟩
        · rw [upd_same]
          show some (HO.tup [V.ref sl, V.int ((0 + b : Nat) : Int)]) = _
          rw [Nat.zero_add]
          rfl
        · rw [← htk]
          exact StopsAt.keep (tk_of s6) hvs5
      | none =>
        rw [hf] at hval
        simp only [hf] at hfol
        rw [hval]
        -- seen[place] = len(stops) - 1
        refine iteF ⟨_, rfl, sl, _, rfl, SqL.of hsl5, _, _, rfl, rfl, _, rfl, _, rfl, sd, _, keyOf p st, pl, rfl, rfl, hsd5, hpl5, ?_, ?_⟩
        · rw [kvs_len, List.length_take]
          exact small1000 (by omega)
        have evl : (((vs ++ [V.ref u]).length : Nat) : Int) - 1 = ((0 + (L.take i).length : Nat) : Int) := by
          have e := hvs.length
          rw [List.length_append, List.length_singleton, e]
          omega
        have nsdsl : sd ≠ sl := nsld.symm
        have k6 : TupKeep H5 (upd H5 sd (.dT (putK (kvsFrom p 0 (L.take i)) (keyOf p st) (.int ((((vs ++ [V.ref u]).length : Nat) : Int) - 1))))) := fun b ys e => by
          rw [upd_ne (ne_of e hsd5 (by intro z; cases z))]
          exact e
        refine ⟨vs ++ [.ref u], _, _, lt, rfl, N5.but (d := sd) .upd k6 nsdF, ?_, StopsAt.keep k6 hvs5, ?_, ?_, fun b o e => ?_, fun j e => ?_⟩
        · rw [upd_ne nsld]
          exact hsl5
        · rw [upd_same, putK_new hval]
          show some (HO.dT (kvsFrom p 0 (L.take i) ++ [(keyOf p st, V.int ((((vs ++ [V.ref u]).length : Nat) : Int) - 1))])) = _
          rw [evl, htk, kvs_snoc]
        · rw [htk]
          exact hfol
        · rw [upd_ne (ne_of_none e nsd0)]
          exact sH5 _ _ e
        · obtain rfl : i = j := by omega
          refine ⟨st, hst, ?_⟩
          exact StopAt.keep k6 (pair_last (htk ▸ hvs5))
end
/-! ### cuts -/
theorem cut_from {xs : List V} {n : Nat} : cutV xs (some (n : Int)) none = xs.drop n := by
  unfold cutV
  rw [HT.sIx_nat, HT.sIx_none]
  by_cases c : n ≤ xs.length
  · rw [Nat.min_eq_left c, List.take_of_length_le (by rw [List.length_drop]; exact Nat.le_refl _)]
  · rw [Nat.min_eq_right (by omega), Nat.sub_self, List.take_zero, List.drop_eq_nil_iff.mpr (by omega)]
theorem cut_to {xs : List V} {n : Nat} : cutV xs none (some (n : Int)) = xs.take n := by
  unfold cutV
  rw [HT.sIx_none, HT.sIx_nat, List.drop_zero, Nat.sub_zero]
  by_cases c : n ≤ xs.length
  · rw [Nat.min_eq_left c]
  · rw [Nat.min_eq_right (by omega), List.take_of_length_le (Nat.le_refl _), List.take_of_length_le (by omega)]
/-! ### stops followed: plain mathematics -/
theorem fol_ne {p : Nat} : ∀ (l d : List (Nat × Nat)), (d ≠ [] ∨ l ≠ []) → (fol p d l).1 ≠ []
  | [], d, h => by
    rcases h with h | h
    · exact h
    · exact absurd rfl h
  | s :: r, d, _ => by
    unfold fol
    cases (d.findIdx? fun t => decide (plc p t = plc p s)) with
    | some b => simp
    | none => exact fol_ne r (d ++ [s]) (.inl (by simp))
theorem fol_len {p : Nat} : ∀ (l d : List (Nat × Nat)), (fol p d l).1.length ≤ d.length + l.length
  | [], d => by
    show d.length ≤ _
    omega
  | s :: r, d => by
    unfold fol
    cases (d.findIdx? fun t => decide (plc p t = plc p s)) with
    | some b =>
      show (d ++ [s]).length ≤ _
      rw [List.length_append, List.length_singleton, List.length_cons]
      omega
    | none =>
      have := fol_len (p := p) r (d ++ [s])
      rw [List.length_append, List.length_singleton] at this
      rw [List.length_cons]
      show (fol p (d ++ [s]) r).1.length ≤ _
      omega
theorem folR_ne {p h : Nat} {os : List Od} {st : Nat × Nat} : (folR p h os st).1 ≠ [] := by
  unfold folR
  refine fol_ne _ _ (.inr ?_)
  show way p os (h * p + 1) st ≠ []
  rw [show way p os (h * p + 1) st = rest p os (h * p + 1) (some st) from rfl, rest_succ]
  exact List.cons_ne_nil _ _
theorem folR_len {p h : Nat} {os : List Od} {st : Nat × Nat} : (folR p h os st).1.length ≤ h * p + 1 := by
  have h1 := fol_len (p := p) (way p os (h * p + 1) st) []
  have h2 := way_len p os (h * p + 1) st
  unfold folR
  simp only [List.length_nil, Nat.zero_add] at h1
  exact Nat.le_trans h1 h2
theorem small301 {p h : Nat} {os : List Od} (k : NetOk p h os) : h * p + 1 ≤ 301 := by
  have : h * p ≤ 10 * 30 := Nat.mul_le_mul k.h10 k.p30
  omega
theorem optV_isN {o : Option Nat} : decide (optV o = .non) = o.isNone := by cases o <;> rfl
theorem pair_drop {α β : Type} {F : α → β → Prop} {xs : List α} {l : List β} (h : Paired F xs l) : ∀ n, Paired F (xs.drop n) (l.drop n) := by
  induction h with
  | nil =>
    intro n
    rw [List.drop_nil, List.drop_nil]
    exact .nil
  | cons r t ih =>
    intro n
    cases n with
    | zero => exact .cons r t
    | succ n => exact ih n
theorem nodup_bound : ∀ (n : Nat) (l : List Nat), l.Nodup → (∀ x ∈ l, x < n) → l.length ≤ n
  | 0, [], _, _ => Nat.le_refl _
  | 0, x :: l, _, h => absurd (h x List.mem_cons_self) (Nat.not_lt_zero _)
  | n + 1, l, nd, h => by
    by_cases c : n ∈ l
    · have h1 : (l.erase n).length ≤ n := nodup_bound n (l.erase n) (nd.erase n) fun x hx => by
        have h2 := (List.Nodup.mem_erase_iff nd).mp hx
        have h3 := h x h2.2
        have h4 : x ≠ n := h2.1
        omega
      have h2 := List.length_erase_of_mem c
      omega
    · have h1 : l.length ≤ n := nodup_bound n l nd fun x hx => by
        have h3 := h x hx
        have h4 : x ≠ n := fun e => c (e ▸ hx)
        omega
      omega
/-- stops at different places are few -/
theorem places_bound {p h : Nat} {l : List (Nat × Nat)} (hp : 0 < p) (hh : ∀ s ∈ l, s.1 < h) (nd : (l.map (plc p)).Nodup) : l.length ≤ h * p := by
  have e : (l.map fun s => s.1 * p + s.2 % p).length = l.length := List.length_map _
  rw [← e]
  refine nodup_bound (h * p) _ ?_ ?_
  · have e2 : (l.map fun s => s.1 * p + s.2 % p) = (l.map (plc p)).map fun s => s.1 * p + s.2 := by
      rw [List.map_map]
      rfl
    rw [e2]
    have lt : ∀ s ∈ l.map (plc p), s.2 < p := fun s hs => by
      obtain ⟨t, _, rfl⟩ := List.mem_map.mp hs
      exact Nat.mod_lt _ hp
    generalize l.map (plc p) = ps at nd lt
    clear e e2 hh
    induction ps with
    | nil => exact List.nodup_nil
    | cons s r ih =>
      rw [List.nodup_cons] at nd
      rw [List.map_cons, List.nodup_cons]
      refine ⟨fun hm => ?_, ih nd.2 fun t ht => lt t (List.mem_cons_of_mem _ ht)⟩
      obtain ⟨t, ht, et⟩ := List.mem_map.mp hm
      have l1 := lt s List.mem_cons_self
      have l2 := lt t (List.mem_cons_of_mem _ ht)
      have q1 : t.1 = s.1 := by
        have a1 : (t.1 * p + t.2) / p = (s.1 * p + s.2) / p := by rw [et]
        rw [Nat.mul_comm t.1, Nat.mul_comm s.1, Nat.mul_add_div hp, Nat.mul_add_div hp, Nat.div_eq_of_lt l1, Nat.div_eq_of_lt l2] at a1
        omega
      have q2 : t.2 = s.2 := by
        rw [q1] at et
        omega
      exact nd.1 (by rw [show s = t from Prod.ext q1.symm q2.symm]; exact ht)
  · intro x hx
    obtain ⟨s, hs, rfl⟩ := List.mem_map.mp hx
    have h1 := hh s hs
    have h2 : s.2 % p < p := Nat.mod_lt _ hp
    calc s.1 * p + s.2 % p < s.1 * p + p := by omega
      _ = (s.1 + 1) * p := by rw [Nat.add_mul, Nat.one_mul]
      _ ≤ h * p := Nat.mul_le_mul_right _ h1
/-- how a way goes on behind its i-th stop -/
theorem way_next {p : Nat} {os : List Od} {n i : Nat} {st c : Nat × Nat} (hc : (way p os n st)[i]? = some c) (hi : i + 1 < n) : (way p os n st).drop (i + 1) = rest p os (n - (i + 1)) (hop p os c) := by
  have h := way_drop hc
  have e : n - i = (n - (i + 1)) + 1 := by omega
  rw [e, show way p os (n - (i + 1) + 1) c = rest p os (n - (i + 1) + 1) (some c) from rfl, rest_succ] at h
  have := congrArg (List.drop 1) h
  rw [List.drop_drop] at this
  exact this
/-- destination's answer -/
def destOf (res : List (Nat × Nat) × Option Nat) : Option (Nat × Nat) := match res.2 with
  | some _ => none
  | none => res.1.getLast?
def OptStop (H' : Hp) (v : V) : Option (Nat × Nat) → Prop
  | none => v = .non
  | some s => StopAt H' v s
/-! ### where a letter is: plain mathematics -/
/-- the i-th stop of a letter's way -/
def stp (p : Nat) (os : List Od) : Nat → Nat × Nat → Option (Nat × Nat)
  | 0, st => some st
  | n + 1, st => (stp p os n st).bind (hop p os)
theorem way_get {p : Nat} {os : List Od} {n : Nat} {st : Nat × Nat} : ∀ {i : Nat}, i < n → (way p os n st)[i]? = stp p os i st
  | 0, h => by
    obtain ⟨n, rfl⟩ : ∃ m, n = m + 1 := ⟨n - 1, by omega⟩
    rw [show way p os (n + 1) st = rest p os (n + 1) (some st) from rfl, rest_succ]
    rfl
  | i + 1, h => by
    have ih := way_get (p := p) (os := os) (n := n) (st := st) (i := i) (by omega)
    show _ = (stp p os i st).bind (hop p os)
    cases q : (way p os n st)[i]? with
    | none =>
      rw [← ih, q]
      rw [List.getElem?_eq_none_iff] at q
      exact List.getElem?_eq_none_iff.mpr (by omega)
    | some c =>
      rw [← ih, q]
      have e := way_next q h
      have e2 := congrArg (fun l => l[0]?) e
      simp only [List.getElem?_drop, Nat.add_zero] at e2
      rw [e2]
      obtain ⟨k, hk⟩ : ∃ k, n - (i + 1) = k + 1 := ⟨n - (i + 1) - 1, by omega⟩
      rw [hk]
      show (rest p os (k + 1) (hop p os c))[0]? = hop p os c
      cases hop p os c with
      | none => rfl
      | some s =>
        rw [rest_succ]
        rfl
theorem stp_add {p : Nat} {os : List Od} {i : Nat} {st : Nat × Nat} : ∀ {j : Nat}, stp p os (i + j) st = (stp p os i st).bind (stp p os j)
  | 0 => by
    show stp p os i st = _
    cases stp p os i st <;> rfl
  | j + 1 => by
    show (stp p os (i + j) st).bind (hop p os) = _
    rw [stp_add]
    cases stp p os i st <;> rfl
theorem hop_more {p h : Nat} {os : List Od} {c s : Nat × Nat} (k : NetOk p h os) (e : hop p os c = some s) : c.2 < s.2 := by
  unfold hop at e
  cases q : idx p os c.1 (c.2 : Int) with
  | none =>
    rw [q] at e
    cases e
  | some j =>
    simp only [q] at e
    have hj := idx_lt q
    rw [List.getElem?_eq_getElem hj] at e
    rw [← Option.some.inj e]
    have := (k.ok _ (List.getElem_mem hj)).e1
    show c.2 < c.2 + _
    omega
theorem stp_more {p h : Nat} {os : List Od} {i : Nat} {st a : Nat × Nat} (ok : NetOk p h os) (ha : stp p os i st = some a) : ∀ {k : Nat}, ∀ {b}, stp p os (i + (k + 1)) st = some b → a.2 < b.2
  | 0, b, hb => by
    have e : (stp p os i st).bind (hop p os) = some b := hb
    rw [ha] at e
    exact hop_more ok e
  | k + 1, b, hb => by
    have e : (stp p os (i + (k + 1)) st).bind (hop p os) = some b := hb
    cases q : stp p os (i + (k + 1)) st with
    | none =>
      rw [q] at e
      cases e
    | some c =>
      rw [q] at e
      have h1 := stp_more ok ha (k := k) q
      have h2 := hop_more ok e
      omega
/-- the letter's last stop up to the day x: it is c, the j-th -/
def LastAt (p : Nat) (os : List Od) (st : Nat × Nat) (x : Nat) (c : Nat × Nat) (j : Nat) : Prop :=
  stp p os j st = some c ∧ c.2 ≤ x ∧ ∀ s, hop p os c = some s → x < s.2
theorem LastAt.uniq {p h : Nat} {os : List Od} {st c c' : Nat × Nat} {x j j' : Nat} (ok : NetOk p h os) (a : LastAt p os st x c j) (b : LastAt p os st x c' j') : c = c' ∧ j = j' := by
  obtain ⟨a1, a2, a3⟩ := a
  obtain ⟨b1, b2, b3⟩ := b
  have key : ∀ {c c' : Nat × Nat} {j j' : Nat}, stp p os j st = some c → (∀ s, hop p os c = some s → x < s.2) → stp p os j' st = some c' → c'.2 ≤ x → j < j' → False := by
    intro c c' j j' h1 h2 h3 h4 lt
    obtain ⟨k, rfl⟩ : ∃ k, j' = (j + 1) + k := ⟨j' - (j + 1), by omega⟩
    have e0 : stp p os (j + 1) st = hop p os c := by
      show (stp p os j st).bind (hop p os) = _
      rw [h1]
      rfl
    cases q : hop p os c with
    | none =>
      rw [stp_add, e0, q] at h3
      cases h3
    | some s =>
      have h5 := h2 s q
      cases k with
      | zero =>
        rw [Nat.add_zero, e0, q] at h3
        rw [← Option.some.inj h3] at h4
        omega
      | succ k =>
        have h6 := stp_more ok (e0.trans q) h3
        omega
  by_cases e : j = j'
  · subst e
    exact ⟨Option.some.inj (a1.symm.trans b1), rfl⟩
  · rcases Nat.lt_or_gt_of_ne e with lt | lt
    · exact (key a1 a3 b1 b2 lt).elim
    · exact (key b1 b3 a1 a2 lt).elim
/-- later by D days, a multiple of the period -/
def shf (D : Nat) (s : Nat × Nat) : Nat × Nat := (s.1, s.2 + D)
theorem hop_shf {p : Nat} {os : List Od} {k : Nat} (s : Nat × Nat) : hop p os (shf (p * k) s) = (hop p os s).map (shf (p * k)) := by
  unfold hop shf
  show (match idx p os s.1 ((s.2 + p * k : Nat) : Int) with | none => none | some j => (os[j]?).map fun o : Od => (o.t, s.2 + p * k + o.e)) = _
  rw [idx_later]
  cases idx p os s.1 (s.2 : Int) with
  | none => rfl
  | some j =>
    show (os[j]?).map _ = ((os[j]?).map _).map _
    rw [Option.map_map]
    congr 1
    funext o
    show (o.t, s.2 + p * k + o.e) = (o.t, s.2 + o.e + p * k)
    rw [show s.2 + p * k + o.e = s.2 + o.e + p * k by omega]
theorem stp_shf {p : Nat} {os : List Od} {k : Nat} (s : Nat × Nat) : ∀ j, stp p os j (shf (p * k) s) = (stp p os j s).map (shf (p * k))
  | 0 => rfl
  | j + 1 => by
    show (stp p os j (shf (p * k) s)).bind (hop p os) = ((stp p os j s).bind (hop p os)).map _
    rw [stp_shf s j]
    cases stp p os j s with
    | none => rfl
    | some c => exact hop_shf c
/-- round after round -/
theorem stp_round {p : Nat} {os : List Od} {b N D k0 : Nat} {st t : Nat × Nat} (hD : D = p * k0) (h1 : stp p os b st = some t) (h2 : stp p os (b + N) st = some (shf D t)) : ∀ (r i : Nat), stp p os (b + i + N * r) st = (stp p os (b + i) st).map (shf (D * r))
  | 0, i => by
    rw [Nat.mul_zero, Nat.mul_zero, Nat.add_zero]
    cases stp p os (b + i) st <;> rfl
  | r + 1, i => by
    have one : ∀ j, stp p os (b + N + j) st = (stp p os (b + j) st).map (shf D) := by
      intro j
      rw [stp_add, h2]
      show stp p os j (shf D t) = _
      rw [stp_add (i := b), h1, hD, stp_shf]
      rfl
    have e : b + i + N * (r + 1) = b + N + (i + N * r) := by
      rw [Nat.mul_add, Nat.mul_one]
      omega
    rw [e, one, show b + (i + N * r) = b + i + N * r by omega, stp_round hD h1 h2 r i, Option.map_map]
    congr 1
    funext s
    show (s.1, s.2 + D * r + D) = (s.1, s.2 + D * (r + 1))
    rw [Nat.mul_add, Nat.mul_one, Nat.add_assoc]
/-- what fol says -/
theorem fol_spec {p : Nat} : ∀ (r d : List (Nat × Nat)), (d.map (plc p)).Nodup →
    (fol p d r = (d ++ r, none) ∧ ((d ++ r).map (plc p)).Nodup) ∨ ∃ m s b t r', d ++ r = m ++ s :: r' ∧ fol p d r = (m ++ [s], some b) ∧ m[b]? = some t ∧ plc p t = plc p s ∧ (m.map (plc p)).Nodup
  | [], d, nd => .inl ⟨by rw [List.append_nil]; rfl, by rw [List.append_nil]; exact nd⟩
  | s :: r, d, nd => by
    unfold fol
    cases q : d.findIdx? (fun t => decide (plc p t = plc p s)) with
    | some b =>
      obtain ⟨hb, hb2, _⟩ := List.findIdx?_eq_some_iff_getElem.mp q
      exact .inr ⟨d, s, b, d[b], r, rfl, rfl, List.getElem?_eq_getElem hb, of_decide_eq_true hb2, nd⟩
    | none =>
      have nd2 : ((d ++ [s]).map (plc p)).Nodup := by
        rw [List.map_append, List.nodup_append]
        refine ⟨nd, by simp, fun x hx y hy => ?_⟩
        rw [List.map_cons, List.map_nil, List.mem_singleton] at hy
        rw [hy]
        intro e
        obtain ⟨t, ht, et⟩ := List.mem_map.mp hx
        have := List.findIdx?_eq_none_iff.mp q t ht
        exact Bool.false_ne_true (this.symm.trans (decide_eq_true (et.trans e)))
      have ih := fol_spec r (d ++ [s]) nd2
      rw [List.append_assoc] at ih
      exact ih
/-- a letter that is delivered, or chases: by its stops -/
theorem folR_cases {p h : Nat} {os : List Od} {st : Nat × Nat} (ok : NetOk p h os) (hh : st.1 < h) :
    (∃ l, folR p h os st = (l, none) ∧ l ≠ [] ∧ (∀ i, l[i]? = stp p os i st) ∧ (l.map (plc p)).Nodup) ∨
    (∃ m s b t k, folR p h os st = (m ++ [s], some b) ∧ (∀ i, i ≤ m.length → (m ++ [s])[i]? = stp p os i st) ∧ m[b]? = some t ∧ s = shf (p * k) t ∧ 0 < p * k ∧ (m.map (plc p)).Nodup) := by
  have hp : 0 < p := ok.p1
  have hlen := way_len p os (h * p + 1) st
  have hget : ∀ {i}, i < h * p + 1 → (way p os (h * p + 1) st)[i]? = stp p os i st := fun hi => way_get hi
  have hho := way_house (n := h * p + 1) ok hh
  have hne : way p os (h * p + 1) st ≠ [] := by
    rw [show way p os (h * p + 1) st = rest p os (h * p + 1) (some st) from rfl, rest_succ]
    exact List.cons_ne_nil _ _
  unfold folR
  generalize way p os (h * p + 1) st = L at hlen hget hho hne
  rcases fol_spec (p := p) L [] List.nodup_nil with ⟨e, nd⟩ | ⟨m, s, b, t, r', e1, e2, e3, e4, nd⟩
  · rw [List.nil_append] at e nd
    refine .inl ⟨L, e, hne, fun i => ?_, nd⟩
    have hb := places_bound hp hho nd
    by_cases c : i < h * p + 1
    · exact hget c
    · have e1 : stp p os L.length st = none := by
        rw [← hget (by omega)]
        exact List.getElem?_eq_none_iff.mpr (Nat.le_refl _)
      have e2 : i = L.length + (i - L.length) := by omega
      rw [e2, stp_add, e1]
      exact List.getElem?_eq_none_iff.mpr (by omega)
  · rw [List.nil_append] at e1
    have hml : m.length < L.length := by
      rw [e1, List.length_append, List.length_cons]
      omega
    have hg : ∀ i, i ≤ m.length → (m ++ [s])[i]? = stp p os i st := fun i hi => by
      rw [← hget (by omega), e1]
      by_cases c : i < m.length
      · rw [List.getElem?_append_left c, List.getElem?_append_left c]
      · obtain rfl : i = m.length := by omega
        rw [List.getElem?_append_right (Nat.le_refl _), List.getElem?_append_right (Nat.le_refl _), Nat.sub_self]
        rfl
    have hbl : b < m.length := (List.getElem?_eq_some_iff.mp e3).1
    have g1 : stp p os b st = some t := by
      rw [← hg b (by omega), List.getElem?_append_left hbl]
      exact e3
    have g2 : stp p os (b + (m.length - b - 1 + 1)) st = some s := by
      rw [show b + (m.length - b - 1 + 1) = m.length by omega, ← hg _ (Nat.le_refl _), List.getElem?_append_right (Nat.le_refl _), Nat.sub_self]
      rfl
    have lt := stp_more (b := s) ok g1 g2
    have h1 : t.1 = s.1 := (Prod.mk.inj e4).1
    have h2 : t.2 % p = s.2 % p := (Prod.mk.inj e4).2
    have hk : s.2 = t.2 + p * (s.2 / p - t.2 / p) := by
      have a1 := Nat.div_add_mod s.2 p
      have a2 := Nat.div_add_mod t.2 p
      have a3 : t.2 / p ≤ s.2 / p := Nat.div_le_div_right (Nat.le_of_lt lt)
      rw [Nat.mul_sub]
      have a4 : p * (t.2 / p) ≤ p * (s.2 / p) := Nat.mul_le_mul_left _ a3
      omega
    refine .inr ⟨m, s, b, t, s.2 / p - t.2 / p, e2, hg, e3, ?_, by omega, nd⟩
    exact Prod.ext h1.symm hk
/-- of an increasing list, those up to a day are its beginning -/
theorem upto {sk x : Nat} : ∀ {l : List (Nat × Nat)}, l.Pairwise (fun a b => a.2 < b.2) → l.filter (fun s => decide (s.2 + sk ≤ x)) = l.take (l.filter fun s => decide (s.2 + sk ≤ x)).length ∧ ∀ s ∈ l.drop (l.filter fun s => decide (s.2 + sk ≤ x)).length, x < s.2 + sk
  | [], _ => ⟨rfl, fun s h => by cases h⟩
  | s :: r, hp => by
    rw [List.pairwise_cons] at hp
    obtain ⟨h1, h2⟩ := upto (sk := sk) (x := x) hp.2
    by_cases c : s.2 + sk ≤ x
    · have e : (s :: r).filter (fun s => decide (s.2 + sk ≤ x)) = s :: r.filter (fun s => decide (s.2 + sk ≤ x)) := List.filter_cons_of_pos (p := fun s : Nat × Nat => decide (s.2 + sk ≤ x)) (decide_eq_true c)
      rw [e, List.length_cons, List.take_succ_cons, List.drop_succ_cons]
      refine ⟨?_, h2⟩
      rw [← h1]
    · have hn : ∀ t ∈ s :: r, x < t.2 + sk := fun t ht => by
        rcases List.mem_cons.mp ht with e | e
        · rw [e]; omega
        · have := hp.1 t e
          omega
      have e0 : (s :: r).filter (fun s => decide (s.2 + sk ≤ x)) = [] := List.filter_eq_nil_iff.mpr fun t ht z => by
        have := hn t ht
        have := of_decide_eq_true z
        omega
      rw [e0]
      exact ⟨rfl, fun t ht => hn t ht⟩
theorem stp_pair {p h : Nat} {os : List Od} {st : Nat × Nat} {l : List (Nat × Nat)} (ok : NetOk p h os) (hl : ∀ i, i < l.length → l[i]? = stp p os i st) : l.Pairwise fun a b => a.2 < b.2 := by
  rw [List.pairwise_iff_getElem]
  intro i j hi hj lt
  have e1 := hl i hi
  have e2 := hl j hj
  rw [List.getElem?_eq_getElem hi] at e1
  rw [List.getElem?_eq_getElem hj] at e2
  obtain ⟨k, rfl⟩ : ∃ k, j = i + (k + 1) := ⟨j - i - 1, by omega⟩
  exact stp_more (b := l[i + (k + 1)]) ok e1.symm e2.symm
def cnt (l : List (Nat × Nat)) (x : Nat) : Nat := (l.filter fun s => decide (s.2 ≤ x)).length
/-- days and hops that a chasing letter has behind it in whole rounds, up to the day x -/
def skips (res : List (Nat × Nat) × Option Nat) (x : Nat) : Nat × Nat := match res.2 with
  | none => (0, 0)
  | some b => match res.1[b]?, res.1.getLast? with
    | some t, some s => if t.2 ≤ x then ((x - t.2) / (s.2 - t.2) * (s.2 - t.2), (x - t.2) / (s.2 - t.2) * (res.1.length - 1 - b)) else (0, 0)
    | _, _ => (0, 0)
def cntS (l : List (Nat × Nat)) (sk x : Nat) : Nat := (l.filter fun s => decide (s.2 + sk ≤ x)).length
theorem cntS_spec {p h : Nat} {os : List Od} {st : Nat × Nat} {l : List (Nat × Nat)} {sk x : Nat} (ok : NetOk p h os) (hl : ∀ i, i < l.length → l[i]? = stp p os i st) :
    cntS l sk x ≤ l.length ∧ (∀ i s, i < cntS l sk x → l[i]? = some s → s.2 + sk ≤ x) ∧ ∀ i s, cntS l sk x ≤ i → l[i]? = some s → x < s.2 + sk := by
  obtain ⟨h1, h2⟩ := upto (sk := sk) (x := x) (stp_pair ok hl)
  have hc : cntS l sk x ≤ l.length := List.length_filter_le _ _
  refine ⟨hc, fun i s hi e => ?_, fun i s hi e => ?_⟩
  · have m : s ∈ l.filter fun s => decide (s.2 + sk ≤ x) := by
      rw [h1]
      refine List.mem_of_getElem? (i := i) ?_
      show (l.take (cntS l sk x))[i]? = some s
      rw [List.getElem?_take_of_lt hi]
      exact e
    exact of_decide_eq_true (List.mem_filter.mp m).2
  · refine h2 s (List.mem_of_getElem? (i := i - cntS l sk x) ?_)
    show (l.drop (cntS l sk x))[i - cntS l sk x]? = some s
    rw [List.getElem?_drop, show cntS l sk x + (i - cntS l sk x) = i by omega]
    exact e
/-- the last stop, as it is computed from what follow says -/
theorem last_of {p h : Nat} {os : List Od} {st : Nat × Nat} {x : Nat} (ok : NetOk p h os) (hh : st.1 < h) (hx : st.2 ≤ x) :
    ∃ c s, cntS (folR p h os st).1 (skips (folR p h os st) x).1 x = c + 1 ∧ (folR p h os st).1[c]? = some s ∧ LastAt p os st x (shf (skips (folR p h os st) x).1 s) (c + (skips (folR p h os st) x).2) ∧
      ((folR p h os st).2.isSome = true → c + 1 < (folR p h os st).1.length) := by
  rcases folR_cases ok hh with ⟨l, e, hne, hl, _⟩ | ⟨m, s, b, t, k, e, hl, hb, hs, hk, _⟩
  · rw [e]
    show ∃ c s, cntS l 0 x = c + 1 ∧ l[c]? = some s ∧ LastAt p os st x (shf 0 s) (c + 0) ∧ (Option.isSome (none : Option Nat) = true → c + 1 < l.length)
    obtain ⟨c1, c2, c3⟩ := cntS_spec (sk := 0) (x := x) ok fun i _ => hl i
    have h0 : l[0]? = some st := hl 0
    have pos : 0 < cntS l 0 x := by
      refine Nat.pos_of_ne_zero fun z => ?_
      have := c3 0 st (by omega) h0
      omega
    obtain ⟨c, hc⟩ : ∃ c, cntS l 0 x = c + 1 := ⟨cntS l 0 x - 1, by omega⟩
    have hcl : c < l.length := by omega
    have hc' := List.getElem?_eq_getElem hcl
    refine ⟨c, l[c], hc, hc', ⟨?_, c2 c _ (by omega) hc', fun s hs => ?_⟩, fun z => by cases z⟩
    · rw [Nat.add_zero, ← hl c]
      exact hc'
    · have e1 : l[c + 1]? = some s := by
        rw [hl (c + 1)]
        show (stp p os c st).bind (hop p os) = _
        rw [← hl c, hc']
        exact hs
      have := c3 (c + 1) s (by omega) e1
      omega
  · rw [e]
    have hbl : b < m.length := (List.getElem?_eq_some_iff.mp hb).1
    have hl' : ∀ i, i < (m ++ [s]).length → (m ++ [s])[i]? = stp p os i st := fun i hi => hl i (by rw [List.length_append, List.length_singleton] at hi; omega)
    have g1 : (m ++ [s])[b]? = some t := by rw [List.getElem?_append_left hbl]; exact hb
    have g2 : (m ++ [s])[m.length]? = some s := by
      rw [List.getElem?_append_right (Nat.le_refl _), Nat.sub_self]
      rfl
    have w1 : stp p os b st = some t := by rw [← hl b (by omega)]; exact g1
    have w2 : stp p os (b + (m.length - b)) st = some (shf (p * k) t) := by
      rw [show b + (m.length - b) = m.length by omega, ← hl _ (Nat.le_refl _), ← hs]
      exact g2
    have hD : s.2 - t.2 = p * k := by
      rw [hs]
      show t.2 + p * k - t.2 = _
      omega
    have esk : skips (m ++ [s], some b) x = if t.2 ≤ x then ((x - t.2) / (p * k) * (p * k), (x - t.2) / (p * k) * (m.length - b)) else (0, 0) := by
      unfold skips
      simp only [g1, List.getLast?_concat, hD]
      rw [List.length_append, List.length_singleton, Nat.add_sub_cancel]
    rw [esk]
    by_cases c : t.2 ≤ x
    · rw [if_pos c]
      generalize hr : (x - t.2) / (p * k) = r
      have q1 := Nat.div_add_mod (x - t.2) (p * k)
      have q2 := Nat.mod_lt (x - t.2) hk
      rw [hr] at q1
      have q3 : p * k * r = r * (p * k) := Nat.mul_comm _ _
      show ∃ c z, cntS (m ++ [s]) (r * (p * k)) x = c + 1 ∧ (m ++ [s])[c]? = some z ∧ LastAt p os st x (shf (r * (p * k)) z) (c + r * (m.length - b)) ∧ (Option.isSome (some b) = true → c + 1 < (m ++ [s]).length)
      obtain ⟨c1, c2, c3⟩ := cntS_spec (sk := r * (p * k)) (x := x) ok hl'
      have lo : b < cntS (m ++ [s]) (r * (p * k)) x := by
        refine Nat.lt_of_not_le fun z => ?_
        have := c3 b t z g1
        omega
      have hi : cntS (m ++ [s]) (r * (p * k)) x ≤ m.length := by
        refine Nat.le_of_not_lt fun z => ?_
        have := c2 m.length s z g2
        have e0 : s.2 = t.2 + p * k := by rw [hs]; rfl
        omega
      obtain ⟨c, hc⟩ : ∃ c, cntS (m ++ [s]) (r * (p * k)) x = c + 1 := ⟨cntS (m ++ [s]) (r * (p * k)) x - 1, by omega⟩
      have hcl : c < (m ++ [s]).length := by rw [List.length_append, List.length_singleton]; omega
      have hc' := List.getElem?_eq_getElem hcl
      have round := stp_round (D := p * k) (k0 := k) rfl w1 w2 r
      have sc : stp p os (c + r * (m.length - b)) st = some (shf (r * (p * k)) ((m ++ [s])[c])) := by
        have e1 := round (c - b)
        rw [show b + (c - b) = c by omega, Nat.mul_comm (m.length - b) r, ← hl c (by omega), hc', Nat.mul_comm (p * k) r] at e1
        exact e1
      refine ⟨c, (m ++ [s])[c], hc, hc', ⟨sc, c2 c _ (by omega) hc', fun z hz => ?_⟩, fun _ => by rw [List.length_append, List.length_singleton]; omega⟩
      have hcl2 : c + 1 < (m ++ [s]).length := by rw [List.length_append, List.length_singleton]; omega
      have hc2' := List.getElem?_eq_getElem hcl2
      have e2 := round (c + 1 - b)
      rw [show b + (c + 1 - b) = c + 1 by omega, Nat.mul_comm (m.length - b) r, ← hl (c + 1) (by omega), hc2', Nat.mul_comm (p * k) r] at e2
      have e3 : stp p os (c + 1 + r * (m.length - b)) st = some z := by
        rw [show c + 1 + r * (m.length - b) = (c + r * (m.length - b)) + 1 by omega]
        show (stp p os (c + r * (m.length - b)) st).bind (hop p os) = _
        rw [sc]
        exact hz
      rw [e3] at e2
      rw [Option.some.inj e2]
      exact c3 (c + 1) _ (by omega) hc2'
    · rw [if_neg c]
      show ∃ c z, cntS (m ++ [s]) 0 x = c + 1 ∧ (m ++ [s])[c]? = some z ∧ LastAt p os st x (shf 0 z) (c + 0) ∧ (Option.isSome (some b) = true → c + 1 < (m ++ [s]).length)
      obtain ⟨c1, c2, c3⟩ := cntS_spec (sk := 0) (x := x) ok hl'
      have h0 : (m ++ [s])[0]? = some st := hl 0 (Nat.zero_le _)
      have pos : 0 < cntS (m ++ [s]) 0 x := by
        refine Nat.pos_of_ne_zero fun z => ?_
        have := c3 0 st (by omega) h0
        omega
      have hi : cntS (m ++ [s]) 0 x ≤ b := by
        refine Nat.le_of_not_lt fun z => ?_
        have := c2 b t z g1
        omega
      obtain ⟨c, hc⟩ : ∃ c, cntS (m ++ [s]) 0 x = c + 1 := ⟨cntS (m ++ [s]) 0 x - 1, by omega⟩
      have hcl : c < (m ++ [s]).length := by rw [List.length_append, List.length_singleton]; omega
      have hc' := List.getElem?_eq_getElem hcl
      have sc : stp p os c st = some ((m ++ [s])[c]) := by
        rw [← hl c (by omega)]
        exact hc'
      refine ⟨c, (m ++ [s])[c], hc, hc', ⟨sc, c2 c _ (by omega) hc', fun z hz => ?_⟩, fun _ => by rw [List.length_append, List.length_singleton]; omega⟩
      have e3 : (m ++ [s])[c + 1]? = some z := by
        rw [hl (c + 1) (by omega)]
        show (stp p os c st).bind (hop p os) = _
        rw [sc]
        exact hz
      have := c3 (c + 1) z (by omega) e3
      omega
/-! ### stops as data -/
theorem fol_first {p : Nat} {s : Nat × Nat} {r : List (Nat × Nat)} : fol p [] (s :: r) = fol p [s] r := by simp [fol]
def plD (s : Nat × Nat) : PyData := .tuple [.int s.1, .int s.2]
theorem plD_shaped (s : Nat × Nat) : PySem.SeqAt.shaped (plD s) = true := by
  show ((plD s).canLay0 && decide ((plD s).depth ≤ 64)) = true
  rw [Bool.and_eq_true]
  refine ⟨by simp [plD, PyData.canLay0, PyData.canLayAll0], decide_eq_true ?_⟩
  have e : (plD s).depth = 1 := by simp [plD, PyData.depth, PyData.depthAll]
  omega
theorem plDs_lay : ∀ l : List (Nat × Nat), PyData.canLayAll0 (l.map plD) = true
  | [] => by simp [PyData.canLayAll0]
  | s :: l => by
    have h : (plD s).canLay0 = true := by simp [plD, PyData.canLay0, PyData.canLayAll0]
    simp [PyData.canLayAll0, h, plDs_lay l]
theorem plDs_depth : ∀ l : List (Nat × Nat), PyData.depthAll (l.map plD) ≤ 1
  | [] => by simp [PyData.depthAll]
  | s :: l => by
    have h1 := plDs_depth l
    have h2 : (plD s).depth = 1 := by simp [plD, PyData.depth, PyData.depthAll]
    simp only [List.map_cons, PyData.depthAll]
    omega
theorem plDs_shaped (l : List (Nat × Nat)) : PySem.SeqAt.shaped (.list (l.map plD)) = true := by
  have h1 := plDs_depth l
  show (PyData.canLay0 (.list (l.map plD)) && decide (PyData.depth (.list (l.map plD)) ≤ 64)) = true
  rw [Bool.and_eq_true]
  refine ⟨by simp only [PyData.canLay0]; exact plDs_lay l, decide_eq_true ?_⟩
  simp only [PyData.depth]
  omega
theorem plD_eqv (s t : Nat × Nat) : PyData.eqv (plD s) (plD t) = decide (s = t) := by
  obtain ⟨a, b⟩ := s
  obtain ⟨c, d⟩ := t
  have e : PyData.eqv (plD (a, b)) (plD (c, d)) = (((a : Int) == (c : Int)) && (((b : Int) == (d : Int)) && true)) := by simp only [plD, PyData.eqv, PyData.eqvAll]
  rw [e]
  by_cases h : ((a, b) : Nat × Nat) = (c, d)
  · cases h
    simp
  · rw [decide_eq_false h]
    by_cases h1 : a = c
    · have h2 : ¬ (b : Int) = (d : Int) := fun z => h (by rw [h1, show b = d by omega])
      have e2 : ((b : Int) == (d : Int)) = false := beq_eq_false_iff_ne.mpr h2
      rw [e2, Bool.false_and, Bool.and_false]
    · have e2 : ((a : Int) == (c : Int)) = false := beq_eq_false_iff_ne.mpr (by omega)
      rw [e2, Bool.false_and]
theorem stop_dp {K : PySem.W.Frag} {H : Hp} {v : V} {s : Nat × Nat} (h : StopAt H v s) : Dp K H v (plD s) := by
  obtain ⟨u, rfl, hu⟩ := h
  exact .tup (SqT.of hu) (.cons (.int _) (.cons (.int _) .nil))
theorem stops_dp {K : PySem.W.Frag} {H : Hp} {vs : List V} {l : List (Nat × Nat)} (h : Paired (StopAt H) vs l) : DpAll K H vs (l.map plD) := by
  induction h with
  | nil => exact .nil
  | cons r _ ih => exact .cons (stop_dp r) ih
abbrev s_destination : Stmt := top 18
abbrev N_destination : List Str := ["net", "house", "day", "stops", "back"]
abbrev P_destination : List Str := ["net", "house", "day"]
theorem sc_destination : FnScope N_destination P_destination (defScope s_destination) := ⟨rfl, rfl, rfl, by decide +kernel, rfl, by decide +kernel, by decide +kernel⟩
/-! ### results of letters -/
def spDest (C : Addr) : Sp := fun vs H Q _ => ∃ (x t : Addr) (p h hs dy : Nat) (os : List Od) (F : List Addr), vs = [.ref x, .int hs, .int dy] ∧ NetAt C H x p h os t F ∧ NetOk p h os ∧ hs < h ∧ dy ≤ 1000000000000000000 ∧
  ∀ H' v, Same H H' → OptStop H' v (destOf (folR p h os (hs, dy))) → Q v H'
section
variable {P : Program} {w : World} {K : PySem.W.Frag} {mg : Str → Option Value} {base : Heap}
theorem ok_dest {f C : Addr} {fd : FuncData} (F : Fun K "destination" "destination" s_destination f fd) (DF : Df P w K mg base "follow" 7 P_follow (spFollow C)) : FnOk P w K mg base CX0 8 f fd P_destination (spDest C) := by
  obtain ⟨fF, fdF, gF, kF, bF, GF⟩ := DF
  refine F.ok sc_destination (fun vs H Q E h => ?_) (fun cdv A outer s H vs Q E hr h => ?_)
  · obtain ⟨x, t, p, h, hs, dy, os, F, rfl, _⟩ := h
    rfl
  · obtain ⟨x, t, p, h, hs, dy, os, F, rfl, Nt, nok, hh, hd, q⟩ := h
    refine ⟨_, pss_cons (ps_asg (pe_call GF hr (by rfl) gF kF bF .nil pass0 (pa_cons (pv 0) (pa_cons (pv 1) (pa_cons (pv 2) pa_nil)))) (pg_tup (by rfl) (pgs_cons (pg_name (i := 3) sc_destination.nd rfl (.inl rfl)) (pgs_cons (pg_name (i := 4) sc_destination.nd rfl (.inl rfl)) pgs_nil))))
      (pss_cons (ps_if (pt_cmpR op_notN (pv 4) pe_non (nomark _)) (pss_one (ps_ret pe_non)) pss_nil)
      (pss_one (ps_ret (pe_ix ix_list (pv 3) (pe_un un_neg pe_int) (fun _ _ => rfl))))), ?_⟩
    refine ⟨_, rfl, _, rfl, _, rfl, x, t, p, h, hs, dy, os, F, rfl, Nt, nok, hh, hd, fun H1 r s1 ⟨sl, vs, _, hr1, nsl, hsl, hvs⟩ => ?_⟩
    refine ⟨r, _, rfl, SqT.of hr1, rfl, _, _, rfl, _, _, rfl, rfl, ?_⟩
    have hne := folR_ne (p := p) (h := h) (os := os) (st := (hs, dy))
    unfold destOf at q
    generalize folR p h os (hs, dy) = res at hr1 hvs hne q
    obtain ⟨l, b⟩ := res
    refine ⟨_, rfl, rfl, _, rfl, ?_⟩
    cases b with
    | some b => exact iteT (q H1 .non s1 rfl)
    | none =>
      obtain ⟨l', c, rfl⟩ : ∃ l' c, l = l' ++ [c] := ⟨l.dropLast, l.getLast hne, (List.dropLast_concat_getLast hne).symm⟩
      obtain ⟨vs', v, rfl, _, hv⟩ := pair_split hvs
      refine iteF ⟨_, rfl, 1, rfl, sl, _, -1, _, rfl, rfl, SqL.of hsl, atI_last _ _, q H1 v s1 ?_⟩
      show OptStop H1 v ((l' ++ [c]).getLast?)
      rw [List.getLast?_concat]
      exact hv
end
/-! ### days of a house: plain -/
/-- the three lists of day_sets: by the days below n -/
def arr (p h : Nat) (os : List Od) (hs n : Nat) : List Nat := (List.range n).filter fun d => (folR p h os (hs, d)).2.isNone
def chs (p h : Nat) (os : List Od) (hs n : Nat) : List Nat := (List.range n).filter fun d => (folR p h os (hs, d)).2.isSome
def ret (p h : Nat) (os : List Od) (hs n : Nat) : List Nat := (List.range n).filter fun d => ((folR p h os (hs, d)).1.drop 1).any fun s => decide (s.1 = hs)
theorem filter_nints {n : Nat} {f : Nat → Bool} (h : f n = true) : nints ((List.range (n + 1)).filter f) = nints ((List.range n).filter f) ++ [.int (n : Nat)] := by
  rw [filter_range_succ', if_pos h]
  unfold nints
  rw [List.map_append]
  rfl
theorem filter_nints' {n : Nat} {f : Nat → Bool} (h : f n = false) : nints ((List.range (n + 1)).filter f) = nints ((List.range n).filter f) := by
  rw [filter_range_succ', if_neg (by rw [h]; exact Bool.false_ne_true), List.append_nil]
theorem nints_small {n : Nat} {f : Nat → Bool} (h : n ≤ 30) : (nints ((List.range n).filter f)).length < sizeLine := by
  unfold nints
  rw [List.length_map]
  exact small1000 (Nat.le_trans (List.length_filter_le _ _) (by rw [List.length_range]; omega))
abbrev s_day_sets : Stmt := top 19
abbrev N_day_sets : List Str := ["net", "house", "delivered", "chasing", "returning", "day", "stops", "back", "stop"]
abbrev P_day_sets : List Str := ["net", "house"]
theorem sc_day_sets : FnScope N_day_sets P_day_sets (defScope s_day_sets) := ⟨rfl, rfl, rfl, by decide +kernel, rfl, by decide +kernel, by decide +kernel⟩
def spSets (C : Addr) : Sp := fun vs H Q _ => ∃ (x t : Addr) (p h hs : Nat) (os : List Od) (F : List Addr), vs = [.ref x, .int hs] ∧ NetAt C H x p h os t F ∧ NetOk p h os ∧ hs < h ∧
  ∀ H' r a b c, Same H H' → H r = none → H a = none → H b = none → H c = none → a ≠ b → a ≠ c → b ≠ c → H' r = some (.tup [.ref a, .ref b, .ref c]) → H' a = some (.lst (nints (arr p h os hs p))) → H' b = some (.lst (nints (chs p h os hs p))) → H' c = some (.lst (nints (ret p h os hs p))) → Q (.ref r) H'
theorem inV_houses {hs : Nat} (l : List (Nat × Nat)) : inV (.int (hs : Nat)) (l.map fun s => V.int (s.1 : Nat)) = l.any fun s => decide (s.1 = hs) := by
  unfold inV
  induction l with
  | nil => rfl
  | cons s r ih =>
    rw [List.map_cons, List.any_cons, List.any_cons, ih]
    congr 1
    show decide ((s.1 : Int) = (hs : Int)) = decide (s.1 = hs)
    by_cases c : s.1 = hs
    · rw [decide_eq_true c, decide_eq_true (by rw [c])]
    · rw [decide_eq_false c, decide_eq_false (by omega)]
section
variable {P : Program} {w : World} {K : PySem.W.Frag} {mg : Str → Option Value} {base : Heap}
theorem ok_sets {f C : Addr} {fd : FuncData} (F : Fun K "day_sets" "day_sets" s_day_sets f fd) (B : Blt mg) (T : NetT K C) (DF : Df P w K mg base "follow" 7 P_follow (spFollow C)) : FnOk P w K mg base CX0 8 f fd P_day_sets (spSets C) := by
  obtain ⟨fF, fdF, gF, kF, bF, GF⟩ := DF
  refine F.ok sc_day_sets (fun vs H Q E h => ?_) (fun cdv A outer s H vs Q E hr h => ?_)
  · obtain ⟨x, t, p, h, hs, os, F, rfl, _⟩ := h
    rfl
  · obtain ⟨x, t, p, h, hs, os, F, rfl, Nt, nok, hh, q⟩ := h
    refine ⟨_, pss_cons (ps_par3 (i := 2) (j := 3) (l := 4) rfl sc_day_sets.nd rfl rfl rfl (by decide) (by decide) (by decide) rfl rfl rfl (pa_cons (pe_lst pa_nil) (pa_cons (pe_lst pa_nil) (pa_cons (pe_lst pa_nil) pa_nil))) (by rfl))
      (pss_cons (ps_for PassesOwn.never rfl (pi_range1 rfl B.range (pa_cons (pe_fld (pv 0) rfl) pa_nil)) (pg_name (i := 5) sc_day_sets.nd rfl (.inl rfl))
        (pss_cons (ps_asg (pe_call GF hr (by rfl) gF kF bF .nil pass0 (pa_cons (pv 0) (pa_cons (pv 1) (pa_cons (pv 5) pa_nil)))) (pg_tup (by rfl) (pgs_cons (pg_name (i := 6) sc_day_sets.nd rfl (.inl rfl)) (pgs_cons (pg_name (i := 7) sc_day_sets.nd rfl (.inl rfl)) pgs_nil))))
        (C8.pss_cut (ps_if (pt_cmpR op_isN (pv 7) pe_non (nomark _)) (pss_one (ps_expr (pe_bm PySem.F.plainAttrs_list PySem.F.slot_list_append PySem.F.type_list_append mt_append (pv 2) (pa_cons (pv 5) pa_nil))))
          (pss_one (ps_expr (pe_bm PySem.F.plainAttrs_list PySem.F.slot_list_append PySem.F.type_list_append mt_append (pv 3) (pa_cons (pv 5) pa_nil)))))
        (pss_one (ps_if (pt_cmpR op_in_seq (pv 1) (pe_lc (own := [("stop", 8)]) (g := gName 8) (tt := tYes) (te := tOp (rIxT K) (tVar 8) (tC (.int 0))) (by rfl) sc_day_sets.nd (pi_list (pe_slice sl_list (pv 6) (po_some pe_int) po_none))
            (blkOk_by (N := N_day_sets) (sc := defScope s_day_sets) (by decide +kernel)) (fun _ _ _ _ _ => pg_name (i := 8) sc_day_sets.nd rfl (.inl rfl)) (fun _ _ _ _ _ => pts_nil) (fun _ _ _ _ _ => pe_ix ix_tup (pv 8) pe_int (fun _ _ => rfl))) rfl)
          (pss_one (ps_expr (pe_bm PySem.F.plainAttrs_list PySem.F.slot_list_append PySem.F.type_list_append mt_append (pv 4) (pa_cons (pv 5) pa_nil)))) pss_nil)))))
      (pss_one (ps_ret (pe_tup (pa_cons (pv 2) (pa_cons (pv 3) (pa_cons (pv 4) pa_nil))))))), ?_⟩
    have p30 := nok.p30; have p1 := nok.p1
    refine ⟨Nat.zero_le _, fun a na => ⟨Nat.zero_le _, fun b nb => ⟨Nat.zero_le _, fun c nc => ?_⟩⟩⟩
    have sa := same_upd (o := HO.lst []) na
    have sb := same_upd (o := HO.lst []) nb
    have sc := same_upd (o := HO.lst []) nc
    have nab : a ≠ b := ne_of_none (upd_same (H := H)) nb
    have nac : a ≠ c := ne_of_none (sb _ _ (upd_same (H := H))) nc
    have nbc : b ≠ c := ne_of_none upd_same nc
    have nb0 : H b = none := sa.free nb
    have nc0 : H c = none := sa.free (sb.free nc)
    have naF := Nt.new na
    have nbF := Nt.new nb0
    have ncF := Nt.new nc0
    have s0 : Same H (upd (upd (upd H a (.lst [])) b (.lst [])) c (.lst [])) := sa.trans (sb.trans sc)
    have ha0 : (upd (upd (upd H a (.lst [])) b (.lst [])) c (.lst [])) a = some (.lst []) := sc _ _ (sb _ _ upd_same)
    have hb0 : (upd (upd (upd H a (.lst [])) b (.lst [])) c (.lst [])) b = some (.lst []) := sc _ _ upd_same
    have hc0 : (upd (upd (upd H a (.lst [])) b (.lst [])) c (.lst [])) c = some (.lst []) := upd_same
    have N0 := Nt.same s0
    generalize (upd (upd (upd H a (.lst [])) b (.lst [])) c (.lst [])) = H0 at s0 ha0 hb0 hc0 N0
    obtain ⟨dx, fl, as, _, hx, _⟩ := id N0
    refine ⟨_, _, _, rfl, ?_⟩
    refine ⟨_, rfl, x, C, dx, _, _, rfl, hx, T.cl, T.nP, nf_pe, (p : Int), rfl, by omega, by omega, ?_⟩
    refine for_range (lo := 0) (n := (p : Int).toNat) (fun i σ H' => (∃ x5 x6 x7, σ = [some (.ref x), some (.int hs), some (.ref a), some (.ref b), some (.ref c), x5, x6, x7, none]) ∧ NetAt C H' x p h os t F ∧ Same H H' ∧ H' a = some (.lst (nints (arr p h os hs i))) ∧ H' b = some (.lst (nints (chs p h os hs i))) ∧ H' c = some (.lst (nints (ret p h os hs i))))
      ⟨⟨_, _, _, rfl⟩, N0, s0, ha0, hb0, hc0⟩ ?_ ?_
    · rintro i σ H1 hi ⟨⟨x5, x6, x7, rfl⟩, N1, s1, ha1, hb1, hc1⟩
      have hi30 : i ≤ 30 := by omega
      refine ⟨_, rfl, _, rfl, _, rfl, x, t, p, h, hs, i, os, F, ?_, N1, nok, hh, by omega, fun H2 r s2 ⟨sl, vs, _, hr2, nsl, hsl, hvs⟩ => ?_⟩
      · show [V.ref x, V.int hs, V.int (0 + (i : Int))] = _
        rw [Int.zero_add]
      have ei : V.int (0 + (i : Int)) = .int (i : Nat) := by rw [Int.zero_add]
      refine ⟨r, _, rfl, SqT.of hr2, rfl, _, _, rfl, _, _, rfl, rfl, ?_⟩
      have N2 := N1.same s2
      have ha2 := s2 _ _ ha1
      have hb2 := s2 _ _ hb1
      have hc2 := s2 _ _ hc1
      have nslb : sl ≠ a := (ne_of_none ha1 nsl).symm
      have nslc : sl ≠ b := (ne_of_none hb1 nsl).symm
      have nsld : sl ≠ c := (ne_of_none hc1 nsl).symm
      -- the first two lists
      refine ⟨fun σ' H' => (σ' = [some (.ref x), some (.int hs), some (.ref a), some (.ref b), some (.ref c), some (.int (0 + (i : Int))), some (.ref sl), some (optV (folR p h os (hs, i)).2), none]) ∧ NetAt C H' x p h os t F ∧ Same H H' ∧ H' sl = some (.lst vs) ∧ Paired (StopAt H') vs (folR p h os (hs, i)).1 ∧
          H' a = some (.lst (nints (arr p h os hs (i + 1)))) ∧ H' b = some (.lst (nints (chs p h os hs (i + 1)))) ∧ H' c = some (.lst (nints (ret p h os hs i))), ⟨_, rfl, rfl, _, rfl, ?_⟩, ?_⟩
      · rw [optV_isN]
        cases hb : (folR p h os (hs, i)).2 with
        | none =>
          have e1 : nints (arr p h os hs (i + 1)) = nints (arr p h os hs i) ++ [.int (i : Nat)] := filter_nints (by rw [hb]; rfl)
          have e2 : nints (chs p h os hs (i + 1)) = nints (chs p h os hs i) := filter_nints' (by rw [hb]; rfl)
          refine iteT ⟨_, rfl, .inl ⟨rfl, _, SqL.of ha2⟩, _, rfl, a, _, _, rfl, rfl, ha2, nints_small hi30, ?_⟩
          have k := TupKeep.lst (o := HO.lst (nints (arr p h os hs i) ++ [V.int (0 + (i : Int))])) ha2
          refine ⟨rfl, N2.but (d := a) .upd k naF, fun b' o e => ?_, (upd_ne nslb).trans hsl, StopsAt.keep k hvs, ?_, ?_, ?_⟩
          · rw [upd_ne (ne_of_none e na)]
            exact s2 _ _ (s1 _ _ e)
          · rw [upd_same, e1, ei]
          · rw [upd_ne nab.symm, e2]
            exact hb2
          · rw [upd_ne nac.symm]
            exact hc2
        | some z =>
          have e1 : nints (arr p h os hs (i + 1)) = nints (arr p h os hs i) := filter_nints' (by rw [hb]; rfl)
          have e2 : nints (chs p h os hs (i + 1)) = nints (chs p h os hs i) ++ [.int (i : Nat)] := filter_nints (by rw [hb]; rfl)
          refine iteF ⟨_, rfl, .inl ⟨rfl, _, SqL.of hb2⟩, _, rfl, b, _, _, rfl, rfl, hb2, nints_small hi30, ?_⟩
          have k := TupKeep.lst (o := HO.lst (nints (chs p h os hs i) ++ [V.int (0 + (i : Int))])) hb2
          refine ⟨rfl, N2.but (d := b) .upd k nbF, fun b' o e => ?_, (upd_ne nslc).trans hsl, StopsAt.keep k hvs, ?_, ?_, ?_⟩
          · rw [upd_ne (ne_of_none e nb0)]
            exact s2 _ _ (s1 _ _ e)
          · rw [upd_ne nab, e1]
            exact ha2
          · rw [upd_same, e2, ei]
          · rw [upd_ne nbc.symm]
            exact hc2
      · rintro σ' H3 ⟨rfl, N3, s3, hsl3, hvs3, ha3, hb3, hc3⟩
        have hl := folR_len (p := p) (h := h) (os := os) (st := (hs, i))
        have hsm := small301 nok
        have ert : ((folR p h os (hs, i)).1.drop 1).any (fun s => decide (s.1 = hs)) = (fun d => ((folR p h os (hs, d)).1.drop 1).any fun s => decide (s.1 = hs)) i := rfl
        generalize hl0 : (folR p h os (hs, i)).1 = l at hvs3 hl ert
        refine ⟨_, rfl, _, rfl, 1, rfl, sl, vs, rfl, SqL.of hsl3, fun cl ncl => ?_⟩
        rw [show cutV vs (some (1 : Int)) none = vs.drop 1 from cut_from (n := 1)]
        have s4 := same_upd (o := HO.lst (vs.drop 1)) ncl
        refine ⟨cl, rfl, ⟨_, SqL.of upd_same⟩, fun D nD => ?_⟩
        have nclD : cl ≠ D := ne_of_none upd_same nD
        have hvs4 := pair_drop (StopsAt.keep (tk_of s4) hvs3) 1
        have hlen := hvs4.length
        refine lc_list (K := K) (a := cl) (xs := vs.drop 1) (fun j H' => H' = upd (upd H3 cl (.lst (vs.drop 1))) D (.lst (((l.drop 1).take j).map fun s => V.int (s.1 : Nat)))) rfl (fun j H' _ e => by rw [e]; exact SqL.of ((upd_ne nclD).trans upd_same)) ?_ ?_
        · rintro j v H' hj rfl
          have lt : j < (l.drop 1).length := by rw [← hlen]; exact (List.getElem?_eq_some_iff.mp hj).1
          obtain ⟨v', hv', u, ev, hu⟩ := Paired.get? (i := j) hvs4 (List.getElem?_eq_getElem lt)
          obtain rfl : v' = v := Option.some.inj (hv'.symm.trans hj)
          subst ev
          have nuD : u ≠ D := ne_of_none hu nD
          refine ⟨rfl, _, rfl, u, _, 0, _, rfl, rfl, SqT.of ((upd_ne nuD).trans hu), atI_nat (j := 0) rfl, _, upd_same, ?_, ?_⟩
          · rw [List.length_map, List.length_take, List.length_drop]
            exact small1000 (by omega)
          · rw [upd_upd, List.take_add_one, List.getElem?_eq_getElem lt, List.map_append]
            rfl
        · rintro H' rfl
          rw [hlen, List.take_of_length_le (Nat.le_refl _)]
          have s5 := same_upd (o := HO.lst ((l.drop 1).map fun s => V.int (s.1 : Nat))) nD
          have s45 := s4.trans s5
          refine ⟨D, _, rfl, .inl (SqL.of upd_same), rfl, ?_, _, rfl, ?_⟩
          · rw [List.all_eq_true]
            intro v hv
            obtain ⟨s, _, rfl⟩ := List.mem_map.mp hv
            rfl
          rw [inV_houses]
          have hc4 := s45 _ _ hc3
          have ha4 := s45 _ _ ha3
          have hb4 := s45 _ _ hb3
          have N4 := N3.same s45
          have s6 := s3.trans s45
          generalize (upd (upd H3 cl (.lst (vs.drop 1))) D (.lst ((l.drop 1).map fun s => V.int (s.1 : Nat)))) = H4 at hc4 ha4 hb4 N4 s6
          refine ite2 (fun e => ?_) (fun e => ?_)
          · have e1 : nints (ret p h os hs (i + 1)) = nints (ret p h os hs i) ++ [.int (i : Nat)] := filter_nints (by show ((folR p h os (hs, i)).1.drop 1).any _ = true; rw [hl0]; exact e)
            refine ⟨_, rfl, .inl ⟨rfl, _, SqL.of hc4⟩, _, rfl, c, _, _, rfl, rfl, hc4, nints_small hi30, ?_⟩
            have k := TupKeep.lst (o := HO.lst (nints (ret p h os hs i) ++ [V.int (0 + (i : Int))])) hc4
            refine ⟨⟨_, _, _, rfl⟩, N4.but (d := c) .upd k ncF, fun b' o e' => ?_, (upd_ne nac).trans ha4, (upd_ne nbc).trans hb4, ?_⟩
            · rw [upd_ne (ne_of_none e' nc0)]
              exact s6 _ _ e'
            · rw [upd_same, e1, ei]
          · have e1 : nints (ret p h os hs (i + 1)) = nints (ret p h os hs i) := filter_nints' (by show ((folR p h os (hs, i)).1.drop 1).any _ = false; rw [hl0]; exact Bool.eq_false_iff.mpr e)
            refine ⟨⟨_, _, _, rfl⟩, N4, s6, ha4, hb4, ?_⟩
            rw [e1]
            exact hc4
    · rintro σ H1 ⟨⟨x5, x6, x7, rfl⟩, N1, s1, ha1, hb1, hc1⟩
      refine ⟨_, rfl, _, rfl, _, rfl, (by show 3 ≤ sizeLine; decide), fun r nr => ?_⟩
      have s2 := same_upd (o := HO.tup [.ref a, .ref b, .ref c]) nr
      exact q _ r a b c (s1.trans s2) (s1.free nr) na nb0 nc0 nab nac nbc upd_same (s2 _ _ ha1) (s2 _ _ hb1) (s2 _ _ hc1)
end
/-! ### equal data (nested lists and tuples of None, bools, ints, texts) -/
def Flat1 (v : V) : Prop := v = .non ∨ (∃ b, v = .bl b) ∨ (∃ i, v = .int i) ∨ ∃ s, v = .str s
def Eqv : Nat → Hp → V → V → Prop
  | 0, _, a, b => a = b ∧ Flat1 a
  | n + 1, H, a, b => (a = b ∧ Flat1 a) ∨ (∃ p q xs ys, a = .ref p ∧ b = .ref q ∧ H p = some (.tup xs) ∧ H q = some (.tup ys) ∧ xs.length ≤ 1000 ∧ Paired (Eqv n H) xs ys) ∨
      ∃ p q xs ys, a = .ref p ∧ b = .ref q ∧ H p = some (.lst xs) ∧ H q = some (.lst ys) ∧ xs.length ≤ 1000 ∧ Paired (Eqv n H) xs ys
theorem Eqv.flat {n : Nat} {H : Hp} {a b : V} (e : a = b) (f : Flat1 a) : Eqv n H a b := by
  cases n with
  | zero => exact ⟨e, f⟩
  | succ n => exact .inl ⟨e, f⟩
theorem Eqv.int {n : Nat} {H : Hp} {i : Int} : Eqv n H (.int i) (.int i) := Eqv.flat rfl (.inr (.inr (.inl ⟨i, rfl⟩)))
theorem Eqv.non {n : Nat} {H : Hp} : Eqv n H .non .non := Eqv.flat rfl (.inl rfl)
theorem Eqv.same : ∀ {n : Nat} {H H' : Hp} {a b : V}, Same H H' → Eqv n H a b → Eqv n H' a b
  | 0, _, _, _, _, _, h => h
  | n + 1, H, H', a, b, s, h => by
    rcases h with h | ⟨p, q, xs, ys, e1, e2, h1, h2, h3, h4⟩ | ⟨p, q, xs, ys, e1, e2, h1, h2, h3, h4⟩
    · exact .inl h
    · exact .inr (.inl ⟨p, q, xs, ys, e1, e2, s _ _ h1, s _ _ h2, h3, Paired.mapP h4 fun _ _ z => Eqv.same s z⟩)
    · exact .inr (.inr ⟨p, q, xs, ys, e1, e2, s _ _ h1, s _ _ h2, h3, Paired.mapP h4 fun _ _ z => Eqv.same s z⟩)
abbrev s_l_equal : Stmt := top 65
abbrev N_l_equal : List Str := ["_law_actual", "_law_expected", "_law_k"]
abbrev P_l_equal : List Str := ["_law_actual", "_law_expected"]
theorem sc_l_equal : FnScope N_l_equal P_l_equal (defScope s_l_equal) := ⟨rfl, rfl, rfl, by decide +kernel, rfl, by decide +kernel, by decide +kernel⟩
def spEqual (n : Nat) : Sp := fun vs H Q _ => ∃ (a b : V), vs = [a, b] ∧ Eqv n H a b ∧ ∀ H', Same H H' → Q (.bl true) H'
section
variable {P : Program} {w : World} {K : PySem.W.Frag} {mg : Str → Option Value} {base : Heap}
theorem bl_ne {x y : Bool} (e : x = y) : (!decide (V.bl x = V.bl y)) = false := by
  rw [decide_eq_true (by rw [e])]
  rfl
theorem ok_equal {f : Addr} {fd : FuncData} (F : Fun K "_law_equal" "_law_equal" s_l_equal f fd) (B : Blt mg) (gE : mg "_law_equal" = some (.ref f)) (bE : Binds K fd P_l_equal []) : ∀ n, FnOk P w K mg base CX0 (n + 1) f fd P_l_equal (spEqual n) := by
  intro n
  induction n with
  | zero =>
    refine F.ok sc_l_equal (fun vs H Q E h => ?_) (fun cdv A outer s H vs Q E hr h => ?_)
    · obtain ⟨a, b, rfl, _⟩ := h
      rfl
    · obtain ⟨a, b, rfl, ⟨rfl, hf⟩, q⟩ := h
      refine ⟨_, pss_cons (ps_if (pt_cmpR op_isN (pv 1) pe_non (nomark _)) (pss_one (ps_ret (pe_cmpR op_isN (pv 0) pe_non (nomark _)))) pss_nil)
        (pss_cons (ps_if (pt_val (pe_callB call_isi (by rfl) B.isi PyProof.Rows.boot_isinstance (pa_cons (pv 1) (pa_cons (pe_bltn (v := .ty "bool") (by rfl) B.bool (by decide +kernel) rfl) pa_nil))))
          (pss_one (ps_ret (pe_and (pe_callB call_isi (by rfl) B.isi PyProof.Rows.boot_isinstance (pa_cons (pv 0) (pa_cons (pe_bltn (v := .ty "bool") (by rfl) B.bool (by decide +kernel) rfl) pa_nil))) (pe_one (pe_cmpR op_eq (pv 0) (pv 1) (nomark _)))))) pss_nil)
        (pss_cons (ps_if (pt_val (pe_callB call_isi (by rfl) B.isi PyProof.Rows.boot_isinstance (pa_cons (pv 1) (pa_cons (pe_bltn (v := .ty "int") (by rfl) B.int (by decide +kernel) rfl) pa_nil))))
          (pss_one (ps_ret (pe_and (pe_callB call_isi (by rfl) B.isi PyProof.Rows.boot_isinstance (pa_cons (pv 0) (pa_cons (pe_bltn (v := .ty "int") (by rfl) B.int (by decide +kernel) rfl) pa_nil)))
            (pe_and (pe_not (pe_callB call_isi (by rfl) B.isi PyProof.Rows.boot_isinstance (pa_cons (pv 0) (pa_cons (pe_bltn (v := .ty "bool") (by rfl) B.bool (by decide +kernel) rfl) pa_nil)))) (pe_one (pe_cmpR op_eq (pv 0) (pv 1) (nomark _))))))) pss_nil)
        (pss_cons (ps_if (pt_val (pe_callB call_isi (by rfl) B.isi PyProof.Rows.boot_isinstance (pa_cons (pv 1) (pa_cons (pe_bltn (v := .ty "str") (by rfl) B.str (by decide +kernel) rfl) pa_nil))))
          (pss_one (ps_ret (pe_and (pe_callB call_isi (by rfl) B.isi PyProof.Rows.boot_isinstance (pa_cons (pv 0) (pa_cons (pe_bltn (v := .ty "str") (by rfl) B.str (by decide +kernel) rfl) pa_nil))) (pe_one (pe_cmpR op_eq (pv 0) (pv 1) (nomark _)))))) pss_nil)
        (pss_cons ps_never (pss_cons ps_never (pss_cons ps_never (pss_one ps_never))))))), ?_⟩
      rcases hf with rfl | ⟨y, rfl⟩ | ⟨y, rfl⟩ | ⟨y, rfl⟩
      · refine ⟨_, rfl, rfl, _, rfl, iteT ⟨_, rfl, rfl, ?_⟩⟩
        exact q H (.refl H)
      · refine ⟨_, rfl, rfl, _, rfl, iteF ⟨_, rfl, _, _, _, _, true, rfl, .ty "bool", .base (.bl y), kit_ty (by decide +kernel), _, rfl, iteT ?_⟩⟩
        refine ⟨_, rfl, _, _, _, _, true, rfl, .ty "bool", .base (.bl y), kit_ty (by decide +kernel), _, rfl, iteT ⟨_, rfl, _, rfl, by cases y <;> rfl, ?_⟩⟩
        rw [decide_eq_true rfl]
        exact q H (.refl H)
      · refine ⟨_, rfl, rfl, _, rfl, iteF ⟨_, rfl, _, _, _, _, false, rfl, .ty "bool", .base (.int y), kit_ty (by decide +kernel), _, rfl, iteF ?_⟩⟩
        refine ⟨_, rfl, _, _, _, _, true, rfl, .ty "int", .base (.int y), kit_ty (by decide +kernel), _, rfl, iteT ?_⟩
        refine ⟨_, rfl, _, _, _, _, true, rfl, .ty "int", .base (.int y), kit_ty (by decide +kernel), _, rfl, iteT ?_⟩
        refine ⟨_, rfl, _, _, _, _, false, rfl, .ty "bool", .base (.int y), kit_ty (by decide +kernel), _, rfl, _, rfl, iteT ⟨_, rfl, _, rfl, rfl, ?_⟩⟩
        rw [decide_eq_true rfl]
        exact q H (.refl H)
      · refine ⟨_, rfl, rfl, _, rfl, iteF ⟨_, rfl, _, _, _, _, false, rfl, .ty "bool", .base (.str y), kit_ty (by decide +kernel), _, rfl, iteF ?_⟩⟩
        refine ⟨_, rfl, _, _, _, _, false, rfl, .ty "int", .base (.str y), kit_ty (by decide +kernel), _, rfl, iteF ?_⟩
        refine ⟨_, rfl, _, _, _, _, true, rfl, .ty "str", .base (.str y), kit_ty (by decide +kernel), _, rfl, iteT ?_⟩
        refine ⟨_, rfl, _, _, _, _, true, rfl, .ty "str", .base (.str y), kit_ty (by decide +kernel), _, rfl, iteT ⟨_, rfl, _, rfl, rfl, ?_⟩⟩
        rw [decide_eq_true rfl]
        exact q H (.refl H)
  | succ n ih =>
    refine F.ok sc_l_equal (fun vs H Q E h => ?_) (fun cdv A outer s H vs Q E hr h => ?_)
    · obtain ⟨a, b, rfl, _⟩ := h
      rfl
    · obtain ⟨a, b, rfl, he, q⟩ := h
      refine ⟨_, pss_cons (ps_if (pt_cmpR op_isN (pv 1) pe_non (nomark _)) (pss_one (ps_ret (pe_cmpR op_isN (pv 0) pe_non (nomark _)))) pss_nil)
        (pss_cons (ps_if (pt_val (pe_callB call_isi (by rfl) B.isi PyProof.Rows.boot_isinstance (pa_cons (pv 1) (pa_cons (pe_bltn (v := .ty "bool") (by rfl) B.bool (by decide +kernel) rfl) pa_nil))))
          (pss_one (ps_ret (pe_and (pe_callB call_isi (by rfl) B.isi PyProof.Rows.boot_isinstance (pa_cons (pv 0) (pa_cons (pe_bltn (v := .ty "bool") (by rfl) B.bool (by decide +kernel) rfl) pa_nil))) (pe_one (pe_cmpR op_eq (pv 0) (pv 1) (nomark _)))))) pss_nil)
        (pss_cons (ps_if (pt_val (pe_callB call_isi (by rfl) B.isi PyProof.Rows.boot_isinstance (pa_cons (pv 1) (pa_cons (pe_bltn (v := .ty "int") (by rfl) B.int (by decide +kernel) rfl) pa_nil))))
          (pss_one (ps_ret (pe_and (pe_callB call_isi (by rfl) B.isi PyProof.Rows.boot_isinstance (pa_cons (pv 0) (pa_cons (pe_bltn (v := .ty "int") (by rfl) B.int (by decide +kernel) rfl) pa_nil)))
            (pe_and (pe_not (pe_callB call_isi (by rfl) B.isi PyProof.Rows.boot_isinstance (pa_cons (pv 0) (pa_cons (pe_bltn (v := .ty "bool") (by rfl) B.bool (by decide +kernel) rfl) pa_nil)))) (pe_one (pe_cmpR op_eq (pv 0) (pv 1) (nomark _))))))) pss_nil)
        (pss_cons (ps_if (pt_val (pe_callB call_isi (by rfl) B.isi PyProof.Rows.boot_isinstance (pa_cons (pv 1) (pa_cons (pe_bltn (v := .ty "str") (by rfl) B.str (by decide +kernel) rfl) pa_nil))))
          (pss_one (ps_ret (pe_and (pe_callB call_isi (by rfl) B.isi PyProof.Rows.boot_isinstance (pa_cons (pv 0) (pa_cons (pe_bltn (v := .ty "str") (by rfl) B.str (by decide +kernel) rfl) pa_nil))) (pe_one (pe_cmpR op_eq (pv 0) (pv 1) (nomark _)))))) pss_nil)
        (pss_cons (ps_if (pt_cmpR op_ne (pe_callB call_isi (by rfl) B.isi PyProof.Rows.boot_isinstance (pa_cons (pv 1) (pa_cons (pe_bltn (v := .ty "tuple") (by rfl) B.tuple (by decide +kernel) rfl) pa_nil)))
            (pe_callB call_isi (by rfl) B.isi PyProof.Rows.boot_isinstance (pa_cons (pv 0) (pa_cons (pe_bltn (v := .ty "tuple") (by rfl) B.tuple (by decide +kernel) rfl) pa_nil))) (nomark _)) (pss_one (ps_ret pe_bl)) pss_nil)
        (pss_cons (ps_if (pt_cmpR op_ne (pe_callB call_isi (by rfl) B.isi PyProof.Rows.boot_isinstance (pa_cons (pv 1) (pa_cons (pe_bltn (v := .ty "list") (by rfl) B.list (by decide +kernel) rfl) pa_nil)))
            (pe_callB call_isi (by rfl) B.isi PyProof.Rows.boot_isinstance (pa_cons (pv 0) (pa_cons (pe_bltn (v := .ty "list") (by rfl) B.list (by decide +kernel) rfl) pa_nil))) (nomark _)) (pss_one (ps_ret pe_bl)) pss_nil)
        (pss_cons (ps_if (pt_cmpR op_ne (pe_callB call_len_seq (by rfl) B.len PySem.boot_len (pa_cons (pv 0) pa_nil)) (pe_callB call_len_seq (by rfl) B.len PySem.boot_len (pa_cons (pv 1) pa_nil)) (nomark _)) (pss_one (ps_ret pe_bl)) pss_nil)
        (pss_one (ps_ret (pe_callB (cr_all rfl) (by rfl) B.all PyProof.Rows.boot_all (pa_cons (pe_lc (own := [("_law_k", 2)]) (g := gName 2) (tt := tYes) (by rfl) sc_l_equal.nd
            (pi_range1 rfl B.range (pa_cons (pe_callB call_len_seq (by rfl) B.len PySem.boot_len (pa_cons (pv 1) pa_nil)) pa_nil)) (blkOk_by (N := N_l_equal) (sc := defScope s_l_equal) (by decide +kernel))
            (fun _ _ _ _ _ => pg_name (i := 2) sc_l_equal.nd rfl (.inl rfl)) (fun _ _ _ _ _ => pts_nil)
            (te := tCall (spEqual n) [] E0 (tCons (tOp (rIx K) (tVar 0) (tVar 2)) (tCons (tOp (rIx K) (tVar 1) (tVar 2)) tNil)))
            (fun _ _ _ _ _ => pe_call ih hr (by rfl) gE F.kp bE .nil pass0 (pa_cons (pe_ix ix_seq (pv 0) (pv 2) (fun _ _ => rfl)) (pa_cons (pe_ix ix_seq (pv 1) (pv 2) (fun _ _ => rfl)) pa_nil)))) pa_nil)))))))))), ?_⟩
      rcases he with ⟨rfl, hf⟩ | ⟨p1, p2, xs, ys, rfl, rfl, h1, h2, hl, hP⟩ | ⟨p1, p2, xs, ys, rfl, rfl, h1, h2, hl, hP⟩
      · rcases hf with rfl | ⟨y, rfl⟩ | ⟨y, rfl⟩ | ⟨y, rfl⟩
        · refine ⟨_, rfl, rfl, _, rfl, iteT ⟨_, rfl, rfl, ?_⟩⟩
          exact q H (.refl H)
        · refine ⟨_, rfl, rfl, _, rfl, iteF ⟨_, rfl, _, _, _, _, true, rfl, .ty "bool", .base (.bl y), kit_ty (by decide +kernel), _, rfl, iteT ?_⟩⟩
          refine ⟨_, rfl, _, _, _, _, true, rfl, .ty "bool", .base (.bl y), kit_ty (by decide +kernel), _, rfl, iteT ⟨_, rfl, _, rfl, by cases y <;> rfl, ?_⟩⟩
          rw [decide_eq_true rfl]
          exact q H (.refl H)
        · refine ⟨_, rfl, rfl, _, rfl, iteF ⟨_, rfl, _, _, _, _, false, rfl, .ty "bool", .base (.int y), kit_ty (by decide +kernel), _, rfl, iteF ?_⟩⟩
          refine ⟨_, rfl, _, _, _, _, true, rfl, .ty "int", .base (.int y), kit_ty (by decide +kernel), _, rfl, iteT ?_⟩
          refine ⟨_, rfl, _, _, _, _, true, rfl, .ty "int", .base (.int y), kit_ty (by decide +kernel), _, rfl, iteT ?_⟩
          refine ⟨_, rfl, _, _, _, _, false, rfl, .ty "bool", .base (.int y), kit_ty (by decide +kernel), _, rfl, _, rfl, iteT ⟨_, rfl, _, rfl, rfl, ?_⟩⟩
          rw [decide_eq_true rfl]
          exact q H (.refl H)
        · refine ⟨_, rfl, rfl, _, rfl, iteF ⟨_, rfl, _, _, _, _, false, rfl, .ty "bool", .base (.str y), kit_ty (by decide +kernel), _, rfl, iteF ?_⟩⟩
          refine ⟨_, rfl, _, _, _, _, false, rfl, .ty "int", .base (.str y), kit_ty (by decide +kernel), _, rfl, iteF ?_⟩
          refine ⟨_, rfl, _, _, _, _, true, rfl, .ty "str", .base (.str y), kit_ty (by decide +kernel), _, rfl, iteT ?_⟩
          refine ⟨_, rfl, _, _, _, _, true, rfl, .ty "str", .base (.str y), kit_ty (by decide +kernel), _, rfl, iteT ⟨_, rfl, _, rfl, rfl, ?_⟩⟩
          rw [decide_eq_true rfl]
          exact q H (.refl H)
      · have el := hP.length
        refine ⟨_, rfl, rfl, _, rfl, iteF ⟨_, rfl, _, _, _, _, false, rfl, .ty "bool", .base (.tup h2), kit_ty (by decide +kernel), _, rfl, iteF ?_⟩⟩
        refine ⟨_, rfl, _, _, _, _, false, rfl, .ty "int", .base (.tup h2), kit_ty (by decide +kernel), _, rfl, iteF ?_⟩
        refine ⟨_, rfl, _, _, _, _, false, rfl, .ty "str", .base (.tup h2), kit_ty (by decide +kernel), _, rfl, iteF ?_⟩
        refine ⟨_, rfl, _, _, _, _, true, rfl, .ty "tuple", .base (.tup h2), kit_ty (by decide +kernel), _, rfl, _, _, _, _, true, rfl, .ty "tuple", .base (.tup h1), kit_ty (by decide +kernel), rfl, _, rfl, ?_⟩
        rw [bl_ne rfl]
        refine iteF ⟨_, rfl, _, _, _, _, false, rfl, .ty "list", .base (.tup h2), kit_ty (by decide +kernel), _, rfl, _, _, _, _, false, rfl, .ty "list", .base (.tup h1), kit_ty (by decide +kernel), rfl, _, rfl, ?_⟩
        rw [bl_ne rfl]
        refine iteF ⟨_, rfl, p1, xs, rfl, .inr (SqT.of h1), _, rfl, p2, ys, rfl, .inr (SqT.of h2), rfl, _, rfl, ?_⟩
        rw [show (!decide (V.int (xs.length : Int) = V.int (ys.length : Int))) = false by rw [el, decide_eq_true rfl]; rfl]
        refine iteF ⟨_, rfl, p2, ys, rfl, .inr (SqT.of h2), ys.length, rfl, by omega, by omega, fun D nD => ?_⟩
        refine lc_range (lo := 0) (n := (ys.length : Int).toNat) (fun i H' => Same H H' ∧ H' D = some (.lst ((List.replicate i true).map V.bl))) ⟨same_upd nD, upd_same⟩ ?_ ?_
        · rintro i H' hi ⟨s1, hD⟩
          have hi2 : i < ys.length := by omega
          obtain ⟨x, hx, hxy⟩ := Paired.get? (i := i) hP (List.getElem?_eq_getElem hi2)
          refine ⟨rfl, _, rfl, _, rfl, .inr (.inl ⟨p1, xs, ((i : Nat) : Int), x, rfl, by show V.int (0 + (i : Int)) = _; rw [Int.zero_add], SqT.of (s1 _ _ h1), atI_nat hx, ?_⟩)⟩
          refine ⟨_, rfl, _, rfl, .inr (.inl ⟨p2, ys, ((i : Nat) : Int), _, rfl, by show V.int (0 + (i : Int)) = _; rw [Int.zero_add], SqT.of (s1 _ _ h2), atI_nat (List.getElem?_eq_getElem hi2), ?_⟩)⟩
          refine ⟨x, _, rfl, hxy.same s1, fun H2 s2 => ?_⟩
          refine ⟨_, s2 _ _ hD, ?_, same_updN (s1.trans s2) nD, ?_⟩
          · rw [List.length_map, List.length_replicate]
            exact small1000 (by omega)
          · rw [upd_same, List.replicate_succ', List.map_append]
            rfl
        · rintro H' ⟨s1, hD⟩
          refine ⟨D, _, rfl, SqL.of hD, ?_⟩
          rw [show (List.replicate (ys.length : Int).toNat true).all id = true by simp]
          exact q _ s1
      · have el := hP.length
        refine ⟨_, rfl, rfl, _, rfl, iteF ⟨_, rfl, _, _, _, _, false, rfl, .ty "bool", .base (.lst h2), kit_ty (by decide +kernel), _, rfl, iteF ?_⟩⟩
        refine ⟨_, rfl, _, _, _, _, false, rfl, .ty "int", .base (.lst h2), kit_ty (by decide +kernel), _, rfl, iteF ?_⟩
        refine ⟨_, rfl, _, _, _, _, false, rfl, .ty "str", .base (.lst h2), kit_ty (by decide +kernel), _, rfl, iteF ?_⟩
        refine ⟨_, rfl, _, _, _, _, false, rfl, .ty "tuple", .base (.lst h2), kit_ty (by decide +kernel), _, rfl, _, _, _, _, false, rfl, .ty "tuple", .base (.lst h1), kit_ty (by decide +kernel), rfl, _, rfl, ?_⟩
        rw [bl_ne rfl]
        refine iteF ⟨_, rfl, _, _, _, _, true, rfl, .ty "list", .base (.lst h2), kit_ty (by decide +kernel), _, rfl, _, _, _, _, true, rfl, .ty "list", .base (.lst h1), kit_ty (by decide +kernel), rfl, _, rfl, ?_⟩
        rw [bl_ne rfl]
        refine iteF ⟨_, rfl, p1, xs, rfl, .inl (SqL.of h1), _, rfl, p2, ys, rfl, .inl (SqL.of h2), rfl, _, rfl, ?_⟩
        rw [show (!decide (V.int (xs.length : Int) = V.int (ys.length : Int))) = false by rw [el, decide_eq_true rfl]; rfl]
        refine iteF ⟨_, rfl, p2, ys, rfl, .inl (SqL.of h2), ys.length, rfl, by omega, by omega, fun D nD => ?_⟩
        refine lc_range (lo := 0) (n := (ys.length : Int).toNat) (fun i H' => Same H H' ∧ H' D = some (.lst ((List.replicate i true).map V.bl))) ⟨same_upd nD, upd_same⟩ ?_ ?_
        · rintro i H' hi ⟨s1, hD⟩
          have hi2 : i < ys.length := by omega
          obtain ⟨x, hx, hxy⟩ := Paired.get? (i := i) hP (List.getElem?_eq_getElem hi2)
          refine ⟨rfl, _, rfl, _, rfl, .inl ⟨p1, xs, ((i : Nat) : Int), x, rfl, by show V.int (0 + (i : Int)) = _; rw [Int.zero_add], SqL.of (s1 _ _ h1), atI_nat hx, ?_⟩⟩
          refine ⟨_, rfl, _, rfl, .inl ⟨p2, ys, ((i : Nat) : Int), _, rfl, by show V.int (0 + (i : Int)) = _; rw [Int.zero_add], SqL.of (s1 _ _ h2), atI_nat (List.getElem?_eq_getElem hi2), ?_⟩⟩
          refine ⟨x, _, rfl, hxy.same s1, fun H2 s2 => ?_⟩
          refine ⟨_, s2 _ _ hD, ?_, same_updN (s1.trans s2) nD, ?_⟩
          · rw [List.length_map, List.length_replicate]
            exact small1000 (by omega)
          · rw [upd_same, List.replicate_succ', List.map_append]
            rfl
        · rintro H' ⟨s1, hD⟩
          refine ⟨D, _, rfl, SqL.of hD, ?_⟩
          rw [show (List.replicate (ys.length : Int).toNat true).all id = true by simp]
          exact q _ s1
end
theorem optEqv {H : Hp} {v v' : V} {o : Option (Nat × Nat)} (h : OptStop H v o) (h' : OptStop H v' o) : Eqv 1 H v v' := by
  cases o with
  | none =>
    obtain rfl : v = .non := h
    obtain rfl : v' = .non := h'
    exact Eqv.non
  | some s =>
    obtain ⟨u, rfl, hu⟩ := h
    obtain ⟨u2, rfl, hu2⟩ := h'
    exact .inr (.inl ⟨u, u2, _, _, rfl, rfl, hu, hu2, by show 2 ≤ 1000; decide, .cons Eqv.int (.cons Eqv.int .nil)⟩)
theorem OptStop.keep {H H' : Hp} {v : V} {o : Option (Nat × Nat)} (k : TupKeep H H') (h : OptStop H v o) : OptStop H' v o := by
  cases o with
  | none => exact h
  | some s => exact StopAt.keep k h
abbrev s_l_net : Stmt := top 60
abbrev N_l_net : List Str := ["_law_parts"]
abbrev P_l_net : List Str := ["_law_parts"]
theorem sc_l_net : FnScope N_l_net P_l_net (defScope s_l_net) := ⟨rfl, rfl, rfl, by decide +kernel, rfl, by decide +kernel, by decide +kernel⟩
/-! ### the law's helper: a net of parts -/
def spNet (C : Addr) : Sp := fun vs H Q _ => ∃ (a t : Addr) (p h : Nat) (os : List Od), vs = [.ref a] ∧ H a = some (.tup [.int p, .int h, .ref t]) ∧ OrdsTup H t os ∧ NetOk p h os ∧
  ∀ H' x F, Same H H' → (∀ b ∈ F, H b = none) → NetAt C H' x p h os t F → Q (.ref x) H'
section
variable {P : Program} {w : World} {K : PySem.W.Frag} {mg : Str → Option Value} {base : Heap}
theorem ok_net {f C fI : Addr} {fd fdI : FuncData} (F : Fun K "_law_net" "_law_net" s_l_net f fd) (M : Mk K C fI) (gC : mg "Net" = some (.ref C)) (GI : FnOk P w K mg base CX0 5 fI fdI P_Net_init (spInit C)) (bI : Binds K fdI P_Net_init []) : FnOk P w K mg base CX0 7 f fd P_l_net (spNet C) := by
  refine F.ok sc_l_net (fun vs H Q E h => ?_) (fun cdv A outer s H vs Q E hr h => ?_)
  · obtain ⟨a, t, p, h, os, rfl, _⟩ := h
    rfl
  · obtain ⟨a, t, p, h, os, rfl, ha, hO, ok, q⟩ := h
    refine ⟨_, pss_one (ps_ret (pe_make M GI hr (by rfl) gC bI .nil pass0 (pa_cons (pe_ix ix_tup (pv 0) pe_int (fun _ _ => rfl)) (pa_cons (pe_ix ix_tup (pv 0) pe_int (fun _ _ => rfl)) (pa_cons (pe_ix ix_tup (pv 0) pe_int (fun _ _ => rfl)) pa_nil))))), ?_⟩
    refine ⟨_, rfl, a, _, 0, _, rfl, rfl, SqT.of ha, atI_nat (j := 0) rfl, _, rfl, a, _, 1, _, rfl, rfl, SqT.of ha, atI_nat (j := 1) rfl, _, rfl, a, _, 2, _, rfl, rfl, SqT.of ha, atI_nat (j := 2) rfl, ?_⟩
    intro x dx nx ndx nex
    have s0 : Same H (upd (upd H dx (.own x)) x (.ins C dx [])) := same_updN (same_upd ndx) nx
    exact ⟨x, dx, t, p, h, os, H, rfl, ok, hO.keep (tk_of s0), s0, nx, upd_same, fun H' F s1 nF N => ⟨rfl, q H' x F s1 nF N⟩⟩
end
/-! ### the law -/
def spLaw (K : PySem.W.Frag) : Sp := fun vs H Q _ => ∃ (a : Addr) (ns : List Int), vs = [.ref a] ∧ SqL K H a (ns.map V.int) ∧ ns.length ≤ 63 ∧ ∀ H', Q (.bl true) H'
/-- all that the law's step leans on, at the heap H -/
structure StepAt (C : Addr) (H : Hp) (d ap x t : Addr) (p h : Nat) (os : List Od) (F : List Addr) : Prop where
  D : DAt H d
  pa : H ap = some (.tup [.int p, .int h, .ref t])
  po : OrdsTup H t os
  N : NetAt C H x p h os t F
theorem StepAt.keep {C : Addr} {H H' : Hp} {d ap x t : Addr} {p h : Nat} {os : List Od} {F : List Addr} (S : StepAt C H d ap x t p h os F) (s : Same H H') : StepAt C H' d ap x t p h os F :=
  ⟨S.D.but s, s _ _ S.pa, S.po.keep (tk_of s), S.N.same s⟩
theorem StepAt.but {C : Addr} {H H' : Hp} {d ap x t : Addr} {p h : Nat} {os : List Od} {F : List Addr} (S : StepAt C H d ap x t p h os F) (s : But d H H') (D' : DAt H' d) (nF : d ∉ F) : StepAt C H' d ap x t p h os F :=
  ⟨D', s.tk S.D _ _ S.pa, S.po.keep (s.tk S.D), S.N.but s (s.tk S.D) nF⟩
theorem StepAt.lst {C : Addr} {H : Hp} {d ap x t u : Addr} {p h : Nat} {os : List Od} {F : List Addr} {xs : List V} {o : HO} (S : StepAt C H d ap x t p h os F) (hu : H u = some (.lst xs)) (nd : d ≠ u) (nF : u ∉ F) : StepAt C (upd H u o) d ap x t p h os F := by
  have tk : TupKeep H (upd H u o) := TupKeep.lst hu
  exact ⟨S.D.updN nd, tk _ _ S.pa, S.po.keep tk, S.N.but .upd tk nF⟩
theorem StepAt.parts {C : Addr} {H : Hp} {d ap x t : Addr} {p h : Nat} {os : List Od} {F : List Addr} (S : StepAt C H d ap x t p h os F) : PartsAt H ap p h os := ⟨t, S.pa, S.po⟩
theorem ordsEqv {H : Hp} {t : Addr} {os : List Od} (h : OrdsTup H t os) (l : os.length ≤ 20) : Eqv 2 H (.ref t) (.ref t) := by
  obtain ⟨ts, ht, hP⟩ := h
  refine .inr (.inl ⟨t, t, ts, ts, rfl, rfl, ht, ht, by rw [hP.length]; omega, ?_⟩)
  clear l ht
  induction hP with
  | nil => exact .nil
  | cons r _ ih =>
    refine .cons ?_ ih
    obtain ⟨u, rfl, hu⟩ := r
    exact .inr (.inl ⟨u, u, _, _, rfl, rfl, hu, hu, by show 5 ≤ 1000; decide, .cons Eqv.int (.cons Eqv.int (.cons Eqv.int (.cons Eqv.int (.cons Eqv.int .nil))))⟩)
theorem nintsEqv {H : Hp} {a b : Addr} {l : List Nat} (ha : H a = some (.lst (nints l))) (hb : H b = some (.lst (nints l))) (hl : l.length ≤ 1000) : Eqv 1 H (.ref a) (.ref b) := by
  refine .inr (.inr ⟨a, b, _, _, rfl, rfl, ha, hb, by unfold nints; rw [List.length_map]; exact hl, ?_⟩)
  unfold nints
  clear ha hb hl
  induction l with
  | nil => exact .nil
  | cons n l ih => exact .cons ⟨rfl, .inr (.inr (.inl ⟨_, rfl⟩))⟩ ih
theorem stopsEqv {H : Hp} {a b : Addr} {xs ys : List V} {l : List (Nat × Nat)} (ha : H a = some (.lst xs)) (hb : H b = some (.lst ys)) (hx : Paired (StopAt H) xs l) (hy : Paired (StopAt H) ys l) (hl : l.length ≤ 1000) : Eqv 2 H (.ref a) (.ref b) := by
  refine .inr (.inr ⟨a, b, _, _, rfl, rfl, ha, hb, by rw [hx.length]; exact hl, ?_⟩)
  clear ha hb hl
  induction hx generalizing ys with
  | nil => cases hy; exact .nil
  | cons r _ ih =>
    cases hy with
    | cons r2 t2 =>
      refine .cons ?_ (ih t2)
      obtain ⟨u, rfl, hu⟩ := r
      obtain ⟨u2, rfl, hu2⟩ := r2
      exact .inr (.inl ⟨u, u2, _, _, rfl, rfl, hu, hu2, by show 2 ≤ 1000; decide, .cons (Eqv.int) (.cons Eqv.int .nil)⟩)
theorem optV_flat1 (o : Option Nat) : Flat1 (optV o) := by
  cases o with
  | none => exact .inl rfl
  | some k => exact .inr (.inr (.inl ⟨_, rfl⟩))
theorem Paired.last {α β : Type} {F : α → β → Prop} {xs : List α} {l : List β} {s : β} (h : Paired F xs (l ++ [s])) : ∃ ys v, xs = ys ++ [v] ∧ Paired F ys l ∧ F v s := by
  induction l generalizing xs with
  | nil =>
    cases h with
    | cons r t =>
      cases t
      exact ⟨[], _, rfl, .nil, r⟩
  | cons b l ih =>
    cases h with
    | cons r t =>
      obtain ⟨ys, v, rfl, h1, h2⟩ := ih t
      exact ⟨_ :: ys, v, rfl, .cons r h1, h2⟩
theorem Paired.take {α β : Type} {F : α → β → Prop} {xs : List α} {l : List β} (h : Paired F xs l) : ∀ n, Paired F (xs.take n) (l.take n) := by
  induction h with
  | nil =>
    intro n
    rw [List.take_nil, List.take_nil]
    exact .nil
  | cons r _ ih =>
    intro n
    cases n with
    | zero => exact .nil
    | succ n => exact .cons r (ih n)
theorem nints_dp {K : PySem.W.Frag} {H : Hp} {a : Addr} {l : List Nat} (h : H a = some (.lst (nints l))) : Dp K H (.ref a) (.list ((l.map fun (n : Nat) => (n : Int)).map PyData.int)) := by
  refine .lst (SqL.of h) ?_
  clear h
  unfold nints
  induction l with
  | nil => exact .nil
  | cons n l ih => exact .cons (.int _) ih
theorem nints_eqv (l : List Int) : PyData.eqv (.list (l.map PyData.int)) (.list (l.map PyData.int)) = true :=
  PySem.SeqAt.eqv_refl _ (PySem.SeqAt.canLay_of_shaped (PySem.W.ke_shaped_ints l))
abbrev s_last_stop : Stmt := top 29
abbrev N_last_stop : List Str := ["net", "house", "day", "later", "stops", "back", "skipped_days", "skipped_hops", "days", "rounds", "index", "stop"]
abbrev P_last_stop : List Str := ["net", "house", "day", "later"]
theorem sc_last_stop : FnScope N_last_stop P_last_stop (defScope s_last_stop) := ⟨rfl, rfl, rfl, by decide +kernel, rfl, by decide +kernel, by decide +kernel⟩
/-! ### the last stop of a letter -/
theorem stp_le {p h : Nat} {os : List Od} {st : Nat × Nat} (ok : NetOk p h os) : ∀ (i : Nat) {s : Nat × Nat}, stp p os i st = some s → st.2 ≤ s.2 ∧ s.2 ≤ st.2 + 9 * i
  | 0, s, e => by
    rw [← Option.some.inj (show some st = some s from e)]
    omega
  | i + 1, s, e => by
    have e' : (stp p os i st).bind (hop p os) = some s := e
    cases q : stp p os i st with
    | none =>
      rw [q] at e'
      cases e'
    | some c =>
      rw [q] at e'
      have e2 : hop p os c = some s := e'
      have h1 := stp_le ok i q
      have h2 := hop_more ok e2
      have h3 : s.2 ≤ c.2 + 9 := by
        unfold hop at e2
        cases q2 : idx p os c.1 (c.2 : Int) with
        | none =>
          rw [q2] at e2
          cases e2
        | some j =>
          simp only [q2] at e2
          have hj := idx_lt q2
          rw [List.getElem?_eq_getElem hj] at e2
          rw [← Option.some.inj e2]
          have := (ok.ok _ (List.getElem_mem hj)).e
          show c.2 + _ ≤ c.2 + 9
          omega
      omega
/-- what is needed of a chasing letter's stops -/
theorem folR_some {p h : Nat} {os : List Od} {st : Nat × Nat} {b : Nat} (ok : NetOk p h os) (hh : st.1 < h) (e : (folR p h os st).2 = some b) : ∃ m s t, (folR p h os st).1 = m ++ [s] ∧ m[b]? = some t ∧ t.2 < s.2 ∧ s.2 - t.2 ≤ 2709 := by
  have hl := folR_len (p := p) (h := h) (os := os) (st := st)
  have h3 := small301 ok
  rcases folR_cases ok hh with ⟨l, e1, _⟩ | ⟨m, s, b', t, k, e1, e2, e3, e4, e5, _⟩
  · rw [e1] at e
    cases e
  · rw [e1] at e hl
    obtain rfl : b' = b := Option.some.inj e
    have hbl : b' < m.length := (List.getElem?_eq_some_iff.mp e3).1
    simp only [List.length_append, List.length_singleton] at hl
    have g1 : stp p os b' st = some t := by
      rw [← e2 b' (by omega), List.getElem?_append_left hbl]
      exact e3
    have g2 : stp p os m.length st = some s := by
      rw [← e2 _ (Nat.le_refl _), List.getElem?_append_right (Nat.le_refl _), Nat.sub_self]
      rfl
    have h4 := stp_le ok _ g1
    have h5 := stp_le ok _ g2
    have h6 : s.2 = t.2 + p * k := by rw [e4]; rfl
    refine ⟨m, s, t, by rw [e1], e3, by omega, ?_⟩
    omega
theorem skips_none {l : List (Nat × Nat)} {x : Nat} : skips (l, none) x = (0, 0) := rfl
theorem skips_some {m : List (Nat × Nat)} {s t : Nat × Nat} {b x : Nat} (h : m[b]? = some t) : skips (m ++ [s], some b) x = if t.2 ≤ x then ((x - t.2) / (s.2 - t.2) * (s.2 - t.2), (x - t.2) / (s.2 - t.2) * (m.length - b)) else (0, 0) := by
  unfold skips
  have g1 : (m ++ [s])[b]? = some t := by
    rw [List.getElem?_append_left (List.getElem?_eq_some_iff.mp h).1]
    exact h
  simp only [g1, List.getLast?_concat]
  rw [List.length_append, List.length_singleton, Nat.add_sub_cancel]
def spLast (C : Addr) : Sp := fun vs H Q _ => ∃ (x t : Addr) (p h hs dy z : Nat) (os : List Od) (F : List Addr), vs = [.ref x, .int hs, .int dy, .int z] ∧ NetAt C H x p h os t F ∧ NetOk p h os ∧ hs < h ∧ dy ≤ 1000000000000000000 ∧ dy ≤ z ∧ z ≤ 1000000000000000000 ∧
  ∀ H' r c j, Same H H' → LastAt p os (hs, dy) z c j → H' r = some (.tup [.int c.1, .int c.2, .int j]) → Q (.ref r) H'
section
variable {P : Program} {w : World} {K : PySem.W.Frag} {mg : Str → Option Value} {base : Heap}
theorem ok_last {f C : Addr} {fd : FuncData} (F : Fun K "last_stop" "last_stop" s_last_stop f fd) (B : Blt mg) (DF : Df P w K mg base "follow" 7 P_follow (spFollow C)) : FnOk P w K mg base CX0 8 f fd P_last_stop (spLast C) := by
  obtain ⟨fF, fdF, gF, kF, bF, GF⟩ := DF
  refine F.ok sc_last_stop (fun vs H Q E h => ?_) (fun cdv A outer s H vs Q E hr h => ?_)
  · obtain ⟨x, t, p, h, hs, dy, z, os, F, rfl, _⟩ := h
    rfl
  · obtain ⟨x, t, p, h, hs, dy, z, os, F, rfl, Nt, nok, hh, hd, hdz, hz, q⟩ := h
    refine ⟨_, pss_cons (ps_asg (pe_call GF hr (by rfl) gF kF bF .nil pass0 (pa_cons (pv 0) (pa_cons (pv 1) (pa_cons (pv 2) pa_nil)))) (pg_tup (by rfl) (pgs_cons (pg_name (i := 4) sc_last_stop.nd rfl (.inl rfl)) (pgs_cons (pg_name (i := 5) sc_last_stop.nd rfl (.inl rfl)) pgs_nil))))
      (pss_cons (ps_asg (pe_tup (pa_cons pe_int (pa_cons pe_int pa_nil))) (pg_tup (by rfl) (pgs_cons (pg_name (i := 6) sc_last_stop.nd rfl (.inr rfl)) (pgs_cons (pg_name (i := 7) sc_last_stop.nd rfl (.inl rfl)) pgs_nil))))
      (C8.pss_cut (ps_if (PW.pt (pw_and (pt_cmpR op_notN (pv 5) pe_non (nomark _)) (pw_and1 (pt_cmpR op_ge (pv 3) (pe_ix ix_tup (pe_ix ix_list (pv 4) (pv 5) (fun _ _ => rfl)) pe_int (fun _ _ => rfl)) (nomark _)))))
          (pss_cons (ps_set (i := 8) sc_last_stop.nd rfl (.inl rfl) (pe_op op_sub (pe_ix ix_tup (pe_ix ix_list (pv 4) (pe_un un_neg pe_int) (fun _ _ => rfl)) pe_int (fun _ _ => rfl)) (pe_ix ix_tup (pe_ix ix_list (pv 4) (pv 5) (fun _ _ => rfl)) pe_int (fun _ _ => rfl))))
          (pss_cons (ps_set (i := 9) sc_last_stop.nd rfl (.inl rfl) (pe_op op_fdivN (pe_op op_sub (pv 3) (pe_ix ix_tup (pe_ix ix_list (pv 4) (pv 5) (fun _ _ => rfl)) pe_int (fun _ _ => rfl))) (pv 8)))
          (pss_cons (ps_set (i := 6) sc_last_stop.nd rfl (.inr rfl) (pe_op op_mul (pv 9) (pv 8)))
          (pss_one (ps_set (i := 7) sc_last_stop.nd rfl (.inl rfl) (pe_op op_mul (pv 9) (pe_op op_sub (pe_op op_sub (pe_callB call_len_seq (by rfl) B.len PySem.boot_len (pa_cons (pv 4) pa_nil)) pe_int) (pv 5))))))))
          pss_nil)
      (pss_cons (ps_set (i := 10) sc_last_stop.nd rfl (.inl rfl) (pe_op op_sub (pe_callB call_len_seq (by rfl) B.len PySem.boot_len (pa_cons
          (pe_lc (own := [("stop", 11)]) (g := gName 11) (tt := tTest (tOp (rI0 fun i j => .bl (decide (i ≤ j))) (tOp (rI0 fun i j => .int (i + j)) (tOp (rIxT K) (tVar 11) (tC (.int 1))) (tVar 6)) (tVar 3))) (by rfl) sc_last_stop.nd (pi_list (pv 4))
            (blkOk_by (N := N_last_stop) (sc := defScope s_last_stop) (by decide +kernel)) (fun _ _ _ _ _ => pg_name (i := 11) sc_last_stop.nd rfl (.inl rfl)) (fun _ _ _ _ _ => pts_one (pt_cmpR op_le (pe_op op_add (pe_ix ix_tup (pv 11) pe_int (fun _ _ => rfl)) (pv 6)) (pv 3) (nomark _))) (fun _ _ _ _ _ => pv 11)) pa_nil)) pe_int))
      (pss_one (ps_ret (pe_tup (pa_cons (pe_ix ix_tup (pe_ix ix_list (pv 4) (pv 10) (fun _ _ => rfl)) pe_int (fun _ _ => rfl)) (pa_cons (pe_op op_add (pe_ix ix_tup (pe_ix ix_list (pv 4) (pv 10) (fun _ _ => rfl)) pe_int (fun _ _ => rfl)) (pv 6)) (pa_cons (pe_op op_add (pv 10) (pv 7)) pa_nil))))))))), ?_⟩
    refine ⟨_, rfl, _, rfl, _, rfl, x, t, p, h, hs, dy, os, F, rfl, Nt, nok, hh, hd, fun H1 r s1 ⟨sl, vs, _, hr1, nsl, hsl, hvs⟩ => ?_⟩
    refine ⟨r, _, rfl, SqT.of hr1, rfl, _, _, rfl, _, _, rfl, rfl, ?_⟩
    refine ⟨(by show 2 ≤ sizeLine; decide), fun y ny => ?_⟩
    have s2 := same_upd (o := HO.tup [.int 0, .int 0]) ny
    refine ⟨y, _, rfl, SqT.of upd_same, rfl, _, _, rfl, _, _, rfl, rfl, ?_⟩
    have hsl2 := s2 _ _ hsl
    have hvs2 := StopsAt.keep (tk_of s2) hvs
    have sH2 := s1.trans s2
    generalize (upd H1 y (.tup [.int 0, .int 0])) = H2 at hsl2 hvs2 sH2
    have hlen := folR_len (p := p) (h := h) (os := os) (st := (hs, dy))
    have h301 := small301 nok
    have vlen := hvs2.length
    obtain ⟨c, s0, hc, hs0, hla, _⟩ := last_of (x := z) nok (st := (hs, dy)) hh hdz
    generalize hsk : skips (folR p h os (hs, dy)) z = sk at hc hla
    refine ⟨fun σ' H' => (∃ y8 y9, σ' = [some (.ref x), some (.int hs), some (.int dy), some (.int z), some (.ref sl), some (optV (folR p h os (hs, dy)).2), some (.int sk.1), some (.int sk.2), y8, y9, none, none]) ∧ H' = H2, ⟨_, rfl, rfl, _, rfl, ?_⟩, ?_⟩
    · cases hb : (folR p h os (hs, dy)).2 with
      | none =>
        have e1 : sk = (0, 0) := by
          rw [← hsk, show folR p h os (hs, dy) = ((folR p h os (hs, dy)).1, none) from Prod.ext rfl hb]
          rfl
        rw [e1]
        exact ⟨⟨none, none, rfl⟩, rfl⟩
      | some b =>
        obtain ⟨m, s, t0, e1, e2, e3, e4⟩ := folR_some nok (st := (hs, dy)) hh hb
        have hbl : b < m.length := (List.getElem?_eq_some_iff.mp e2).1
        rw [e1] at hvs2 vlen
        have e5 : sk = if t0.2 ≤ z then ((z - t0.2) / (s.2 - t0.2) * (s.2 - t0.2), (z - t0.2) / (s.2 - t0.2) * (m.length - b)) else (0, 0) := by
          rw [← hsk, show folR p h os (hs, dy) = (m ++ [s], some b) from Prod.ext e1 hb]
          exact skips_some e2
        obtain ⟨vt, hvt, ut, rfl, hut⟩ := Paired.get? (i := b) hvs2 (by rw [List.getElem?_append_left hbl]; exact e2)
        obtain ⟨vs', vl, ev, _, ul, rfl, hul⟩ := pair_split hvs2
        have hlast : atI vs (-1) = some (.ref ul) := by rw [ev]; exact atI_last _ _
        refine iteT ⟨_, rfl, _, rfl, _, rfl, sl, _, _, _, rfl, rfl, SqL.of hsl2, atI_nat hvt, ut, _, 1, _, rfl, rfl, SqT.of hut, atI_nat (j := 1) rfl, _, _, rfl, rfl, _, rfl, ite2 (fun e => ?_) (fun e => ?_)⟩
        · have le : t0.2 ≤ z := by
            have := of_decide_eq_true e
            omega
          rw [if_pos le] at e5
          refine ⟨_, rfl, 1, rfl, sl, _, -1, _, rfl, rfl, SqL.of hsl2, hlast, ul, _, 1, _, rfl, rfl, SqT.of hul, atI_nat (j := 1) rfl, _, rfl, _, rfl, sl, _, _, _, rfl, rfl, SqL.of hsl2, atI_nat hvt, ut, _, 1, _, rfl, rfl, SqT.of hut, atI_nat (j := 1) rfl, _, _, rfl, rfl, ?_⟩
          refine ⟨_, rfl, _, rfl, _, rfl, sl, _, _, _, rfl, rfl, SqL.of hsl2, atI_nat hvt, ut, _, 1, _, rfl, rfl, SqT.of hut, atI_nat (j := 1) rfl, _, _, rfl, rfl, _, rfl, _, _, rfl, rfl, ⟨by omega, by omega⟩, ?_⟩
          have er : (((z : Nat) : Int) - ((t0.2 : Nat) : Int)).fdiv (((s.2 : Nat) : Int) - ((t0.2 : Nat) : Int)) = (((z - t0.2) / (s.2 - t0.2) : Nat) : Int) := by
            rw [← Int.ofNat_sub le, ← Int.ofNat_sub (Nat.le_of_lt e3), fdiv_nat]
          have rle : (z - t0.2) / (s.2 - t0.2) ≤ z := Nat.le_trans (Nat.div_le_self _ _) (Nat.sub_le _ _)
          simp only [er]
          generalize hR : (z - t0.2) / (s.2 - t0.2) = R at rle e5
          refine ⟨_, rfl, _, rfl, _, _, rfl, rfl, .inl ⟨by omega, by omega⟩, ?_⟩
          refine ⟨_, rfl, _, rfl, sl, _, rfl, .inl (SqL.of hsl2), _, _, rfl, rfl, _, rfl, _, _, rfl, rfl, _, _, rfl, rfl, .inl ⟨by omega, by omega⟩, ?_⟩
          refine ⟨⟨some (.int (((s.2 : Nat) : Int) - ((t0.2 : Nat) : Int))), some (.int (R : Nat)), ?_⟩, rfl⟩
          have a1 : (R : Int) * (((s.2 : Nat) : Int) - ((t0.2 : Nat) : Int)) = ((sk.1 : Nat) : Int) := by
            rw [e5, ← Int.ofNat_sub (Nat.le_of_lt e3), ← Int.natCast_mul]
          have a2 : (R : Int) * (((vs.length : Nat) : Int) - 1 - ((b : Nat) : Int)) = ((sk.2 : Nat) : Int) := by
            rw [vlen, e5, List.length_append, List.length_singleton]
            rw [show (((m.length + 1 : Nat) : Int) - 1 - ((b : Nat) : Int)) = ((m.length - b : Nat) : Int) by omega, ← Int.natCast_mul]
          show [some (V.ref x), some (V.int hs), some (V.int dy), some (V.int z), some (V.ref sl), some (V.int (b : Nat)), some (V.int ((R : Int) * (((s.2 : Nat) : Int) - ((t0.2 : Nat) : Int)))), some (V.int ((R : Int) * (((vs.length : Nat) : Int) - 1 - ((b : Nat) : Int)))), some (.int (((s.2 : Nat) : Int) - ((t0.2 : Nat) : Int))), some (.int (R : Nat)), none, none] = _
          rw [a1, a2]
          rfl
        · have nle : ¬ t0.2 ≤ z := fun w => e (decide_eq_true (by omega))
          rw [if_neg nle] at e5
          rw [e5]
          exact ⟨⟨none, none, rfl⟩, rfl⟩
    · rintro σ' H3 ⟨⟨y8, y9, rfl⟩, rfl⟩
      generalize hl0 : (folR p h os (hs, dy)).1 = l at hvs2 hlen hc hs0 vlen
      refine ⟨_, rfl, _, rfl, ⟨_, SqL.of hsl2⟩, fun D nD => ?_⟩
      have nslD : sl ≠ D := ne_of_none hsl2 nD
      refine lc_list (K := K) (a := sl) (xs := vs) (fun j H' => ∃ ws, H' = upd H3 D (.lst ws) ∧ ws.length = cntS (l.take j) sk.1 z) ⟨[], rfl, rfl⟩ (fun j H' _ ⟨ws, e, _⟩ => by rw [e]; exact SqL.of ((upd_ne nslD).trans hsl2)) ?_ ?_
      · rintro j v H' hj ⟨ws, rfl, hws⟩
        have lt : j < l.length := by rw [← vlen]; exact (List.getElem?_eq_some_iff.mp hj).1
        have ej := List.getElem?_eq_getElem lt
        obtain ⟨v', hv', u, ev, hu'⟩ := Paired.get? (i := j) hvs2 ej
        obtain rfl : v' = v := Option.some.inj (hv'.symm.trans hj)
        subst ev
        generalize l[j] = sj at ej hu'
        have nuD : u ≠ D := ne_of_none hu' nD
        have hwl : ws.length < sizeLine := by
          rw [hws]
          exact small1000 (Nat.le_trans (List.length_filter_le _ _) (by rw [List.length_take]; omega))
        have etk : cntS (l.take (j + 1)) sk.1 z = cntS (l.take j) sk.1 z + (if sj.2 + sk.1 ≤ z then 1 else 0) := by
          unfold cntS
          rw [List.take_add_one, ej, Option.toList_some, List.filter_append, List.length_append]
          congr 1
          by_cases cc : sj.2 + sk.1 ≤ z
          · rw [if_pos cc, List.filter_cons_of_pos (by exact decide_eq_true cc)]
            rfl
          · rw [if_neg cc, List.filter_cons_of_neg (by rw [decide_eq_false cc]; exact Bool.false_ne_true)]
            rfl
        refine ⟨rfl, _, rfl, u, _, 1, _, rfl, rfl, SqT.of ((upd_ne nuD).trans hu'), atI_nat (j := 1) rfl, _, rfl, _, _, rfl, rfl, _, rfl, _, _, rfl, rfl, _, rfl, ite2 (fun e => ?_) (fun e => ?_)⟩
        · have es : sj.2 + sk.1 ≤ z := by
            have w1 := of_decide_eq_true e
            omega
          refine ⟨_, rfl, ws, upd_same, hwl, ws ++ [.ref u], by rw [upd_upd], ?_⟩
          rw [etk, if_pos es, List.length_append, hws]
          rfl
        · have es : ¬ sj.2 + sk.1 ≤ z := fun w => e (decide_eq_true (by omega))
          refine ⟨ws, rfl, ?_⟩
          rw [etk, if_neg es]
          exact hws
      · rintro H' ⟨ws, rfl, hws⟩
        rw [vlen, List.take_of_length_le (Nat.le_refl _), hc] at hws
        have s5 := same_upd (o := HO.lst ws) nD
        obtain ⟨vc, hvc, uc, rfl, huc⟩ := Paired.get? (i := c) hvs2 hs0
        have ec : (((ws.length : Nat) : Int) - 1) = ((c : Nat) : Int) := by
          rw [hws]
          omega
        refine ⟨D, _, rfl, .inl (SqL.of upd_same), _, _, rfl, rfl, ?_⟩
        simp only [ec]
        refine ⟨_, rfl, _, rfl, sl, _, _, _, rfl, rfl, SqL.of (s5 _ _ hsl2), atI_nat hvc, uc, _, 0, _, rfl, rfl, SqT.of (s5 _ _ huc), atI_nat (j := 0) rfl, _, rfl, _, rfl, sl, _, _, _, rfl, rfl, SqL.of (s5 _ _ hsl2), atI_nat hvc, uc, _, 1, _, rfl, rfl, SqT.of (s5 _ _ huc), atI_nat (j := 1) rfl, _, rfl, _, _, rfl, rfl, _, rfl, _, rfl, _, _, rfl, rfl, (by show 3 ≤ sizeLine; decide), fun r2 nr2 => ?_⟩
        refine q _ r2 _ _ (sH2.trans (s5.trans (same_upd nr2))) hla ?_
        rw [upd_same]
        show some (HO.tup [V.int s0.1, V.int (((s0.2 : Nat) : Int) + ((sk.1 : Nat) : Int)), V.int (((c : Nat) : Int) + ((sk.2 : Nat) : Int))]) = some (HO.tup [V.int s0.1, V.int ((s0.2 + sk.1 : Nat) : Int), V.int ((c + sk.2 : Nat) : Int)])
        rw [Int.natCast_add, Int.natCast_add]
end
/-! ### where a letter is -/
theorem stp_house {p h : Nat} {os : List Od} {st : Nat × Nat} (ok : NetOk p h os) (hh : st.1 < h) : ∀ (i : Nat) {s : Nat × Nat}, stp p os i st = some s → s.1 < h
  | 0, s, e => by
    rw [← Option.some.inj (show some st = some s from e)]
    exact hh
  | i + 1, s, e => by
    have e' : (stp p os i st).bind (hop p os) = some s := e
    cases q : stp p os i st with
    | none =>
      rw [q] at e'
      cases e'
    | some c =>
      rw [q] at e'
      exact hop_house ok e'
def whV (p : Nat) (os : List Od) (z : Nat) (c : Nat × Nat) : List V := match hop p os c with
  | none => [.str "delivered", .int c.1]
  | some s => if c.2 = z then [.str "house", .int c.1] else [.str "way", .int c.1, .int s.1, .int ((s.2 : Int) - (z : Int))]
def hopN (p : Nat) (os : List Od) (c : Nat × Nat) (j : Nat) : Nat := match hop p os c with
  | none => j
  | some _ => j + 1
def spWhere (C : Addr) : Sp := fun vs H Q _ => ∃ (x t : Addr) (p h hs dy z : Nat) (os : List Od) (F : List Addr), vs = [.ref x, .int hs, .int dy, .int z] ∧ NetAt C H x p h os t F ∧ NetOk p h os ∧ hs < h ∧ dy ≤ 1000000000000000000 ∧ z ≤ 1000000000000000000 ∧
  ∀ H' v, Same H H' → (z < dy → v = .non) → (dy ≤ z → ∃ u c j, v = .ref u ∧ LastAt p os (hs, dy) z c j ∧ H' u = some (.tup (whV p os z c))) → Q v H'
def spCount (C : Addr) : Sp := fun vs H Q _ => ∃ (x t : Addr) (p h hs dy z : Nat) (os : List Od) (F : List Addr), vs = [.ref x, .int hs, .int dy, .int z] ∧ NetAt C H x p h os t F ∧ NetOk p h os ∧ hs < h ∧ dy ≤ 1000000000000000000 ∧ z ≤ 1000000000000000000 ∧
  ∀ H' (n : Nat), Same H H' → (z < dy → n = 0) → (dy ≤ z → ∃ c j, LastAt p os (hs, dy) z c j ∧ n = hopN p os c j) → Q (.int n) H'
abbrev s_where : Stmt := top 21
abbrev N_where : List Str := ["net", "house", "day", "later", "source", "start", "hops", "following", "target", "arrival"]
abbrev P_where : List Str := ["net", "house", "day", "later"]
theorem sc_where : FnScope N_where P_where (defScope s_where) := ⟨rfl, rfl, rfl, by decide +kernel, rfl, by decide +kernel, by decide +kernel⟩
section
variable {P : Program} {w : World} {K : PySem.W.Frag} {mg : Str → Option Value} {base : Heap}
theorem ok_where {f C fS : Addr} {fd fdS : FuncData} (F : Fun K "where" "where" s_where f fd) (T : NetT K C) (DL : Df P w K mg base "check_letter" 4 P_check_letter (spLetter C)) (DD : Df P w K mg base "check_day" 3 P_check_day spDay)
    (DS : Df P w K mg base "last_stop" 8 P_last_stop (spLast C)) (GS : FnOk P w K mg base CX0 2 fS fdS P_Net_stop_after (spStop C)) (mS : Meth K C "stop_after" fS) (bS : Binds K fdS P_Net_stop_after []) : FnOk P w K mg base CX0 9 f fd P_where (spWhere C) := by
  obtain ⟨fL, fdL, gL, kL, bL, GL⟩ := DL
  obtain ⟨fD, fdD, gD, kD, bD, GD⟩ := DD
  obtain ⟨fT, fdT, gT, kT, bT, GT⟩ := DS
  refine F.ok sc_where (fun vs H Q E h => ?_) (fun cdv A outer s H vs Q E hr h => ?_)
  · obtain ⟨x, t, p, h, hs, dy, z, os, F, rfl, _⟩ := h
    rfl
  · obtain ⟨x, t, p, h, hs, dy, z, os, F, rfl, N, ok, hh, hd, hz, q⟩ := h
    have hr1 : Room 2 _ := hr.mono (by decide)
    have hr2 : Room 3 _ := hr.mono (by decide)
    have hr3 : Room 4 _ := hr.mono (by decide)
    refine ⟨_, pss_cons (ps_expr (pe_call GL hr3 (by rfl) gL kL bL .nil pass0 (pa_cons (pv 0) (pa_cons (pv 1) (pa_cons (pv 2) pa_nil)))))
      (pss_cons (ps_expr (pe_call GD hr2 (by rfl) gD kD bD .nil pass0 (pa_cons (pv 3) pa_nil)))
      (pss_cons (ps_if (pt_cmpR op_lt (pv 3) (pv 2) (nomark _)) (pss_one (ps_ret pe_non)) pss_nil)
      (pss_cons (ps_asg (pe_call GT hr (by rfl) gT kT bT .nil pass0 (pa_cons (pv 0) (pa_cons (pv 1) (pa_cons (pv 2) (pa_cons (pv 3) pa_nil))))) (pg_tup (by rfl) (pgs_cons (pg_name (i := 4) sc_where.nd rfl (.inl rfl)) (pgs_cons (pg_name (i := 5) sc_where.nd rfl (.inl rfl)) (pgs_cons (pg_name (i := 6) sc_where.nd rfl (.inl rfl)) pgs_nil)))))
      (pss_cons (ps_set (i := 7) sc_where.nd rfl (.inl rfl) (pe_meth (pv 0) T.cl mS GS hr1 bS .nil pass0 (pa_cons (pv 4) (pa_cons (pv 5) pa_nil))))
      (pss_cons (ps_if (pt_cmpR op_isN (pv 7) pe_non (nomark _)) (pss_one (ps_ret (pe_tup (pa_cons pe_str (pa_cons (pv 4) pa_nil))))) pss_nil)
      (pss_cons (ps_if (pt_cmpR op_eq (pv 5) (pv 3) (nomark _)) (pss_one (ps_ret (pe_tup (pa_cons pe_str (pa_cons (pv 4) pa_nil))))) pss_nil)
      (pss_cons (ps_asg (pv 7) (pg_tup (by rfl) (pgs_cons (pg_name (i := 8) sc_where.nd rfl (.inl rfl)) (pgs_cons (pg_name (i := 9) sc_where.nd rfl (.inl rfl)) pgs_nil))))
      (pss_one (ps_ret (pe_tup (pa_cons pe_str (pa_cons (pv 4) (pa_cons (pv 8) (pa_cons (pe_op op_sub (pv 9) (pv 3)) pa_nil)))))))))))))), ?_⟩
    have hp : 0 < p := ok.p1
    refine ⟨_, rfl, _, rfl, _, rfl, x, t, p, h, hs, dy, os, F, rfl, N, hh, hd, _, rfl, z, rfl, hz, _, rfl, _, rfl, _, _, rfl, rfl, _, rfl, ite2 (fun e => ?_) (fun e => ?_)⟩
    · have lt : z < dy := by
        have := of_decide_eq_true e
        omega
      exact q H .non (.refl H) (fun _ => rfl) fun w => by omega
    · have le : dy ≤ z := by
        have := e
        refine Nat.le_of_not_lt fun w => e (decide_eq_true (by omega))
      refine ⟨_, rfl, _, rfl, _, rfl, _, rfl, x, t, p, h, hs, dy, z, os, F, rfl, N, ok, hh, hd, le, hz, fun H1 r c j s1 hla hr1' => ?_⟩
      refine ⟨r, _, rfl, SqT.of hr1', rfl, _, _, rfl, _, _, rfl, _, _, rfl, rfl, ?_⟩
      have N1 := N.same s1
      have hc := stp_house ok hh j hla.1
      obtain ⟨dx, fl, as, e0, hx, rest⟩ := id N1
      refine ⟨_, rfl, x, dx, _, rfl, hx, nf_no (by decide +kernel) (by decide +kernel) (by decide +kernel) (by decide +kernel), _, rfl, _, rfl, ?_⟩
      refine ⟨x, t, p, h, c.1, c.2, os, F, rfl, N1, hp, hc, fun H2 v s2 hv => ?_⟩
      have s12 := s1.trans s2
      have ecc : (c.1, c.2) = c := rfl
      cases hq : hop p os c with
      | none =>
        rw [ecc, hq] at hv
        obtain rfl : v = .non := hv
        refine ⟨_, rfl, rfl, _, rfl, iteT ⟨_, rfl, (by show 2 ≤ sizeLine; decide), fun u nu => ?_⟩⟩
        refine q _ _ (s12.trans (same_upd nu)) (fun w => by omega) fun _ => ⟨u, c, j, rfl, hla, ?_⟩
        unfold whV
        rw [hq, upd_same]
      | some s =>
        rw [ecc, hq] at hv
        obtain ⟨u1, rfl, _, hu1⟩ := hv
        refine ⟨_, rfl, rfl, _, rfl, iteF ⟨_, rfl, _, rfl, rfl, _, rfl, ite2 (fun e2 => ?_) (fun e2 => ?_)⟩⟩
        · have ez : c.2 = z := by
            have := V.int.inj (of_decide_eq_true e2)
            omega
          refine ⟨_, rfl, (by show 2 ≤ sizeLine; decide), fun u nu => ?_⟩
          refine q _ _ (s12.trans (same_upd nu)) (fun w => by omega) fun _ => ⟨u, c, j, rfl, hla, ?_⟩
          unfold whV
          simp only [hq]
          rw [if_pos ez, upd_same]
        · have ez : ¬ c.2 = z := fun w => e2 (decide_eq_true (by rw [w]))
          refine ⟨_, rfl, u1, _, rfl, SqT.of hu1, rfl, _, _, rfl, _, _, rfl, rfl, ?_⟩
          refine ⟨_, rfl, _, rfl, _, rfl, _, rfl, _, _, rfl, rfl, (by show 4 ≤ sizeLine; decide), fun u nu => ?_⟩
          refine q _ _ (s12.trans (same_upd nu)) (fun w => by omega) fun _ => ⟨u, c, j, rfl, hla, ?_⟩
          unfold whV
          simp only [hq]
          rw [if_neg ez, upd_same]
end
/-! ### loops: plain mathematics -/
theorem plc_shf {p k : Nat} (s : Nat × Nat) : plc p (shf (p * k) s) = plc p s := by
  unfold plc shf
  rw [Nat.add_mul_mod_self_left]
theorem plc_plc {p : Nat} (s : Nat × Nat) : plc p (plc p s) = plc p s := by
  unfold plc
  rw [Nat.mod_mod]
theorem shf_plc {p : Nat} (s : Nat × Nat) : s = shf (p * (s.2 / p)) (plc p s) := by
  obtain ⟨a, d⟩ := s
  show (a, d) = (a, d % p + p * (d / p))
  rw [Nat.add_comm, Nat.div_add_mod]
/-- a letter's place behind i hops -/
def pst (p : Nat) (os : List Od) (i : Nat) (q : Nat × Nat) : Option (Nat × Nat) := (stp p os i q).map (plc p)
theorem pst_shf {p i k : Nat} {os : List Od} (s : Nat × Nat) : pst p os i (shf (p * k) s) = pst p os i s := by
  unfold pst
  rw [stp_shf, Option.map_map]
  congr 1
  funext t
  exact plc_shf t
theorem pst_plc {p i : Nat} {os : List Od} (s : Nat × Nat) : pst p os i (plc p s) = pst p os i s := by
  conv => rhs; rw [shf_plc (p := p) s]
  rw [pst_shf]
theorem pst_add {p i j : Nat} {os : List Od} (s : Nat × Nat) : pst p os (i + j) s = (pst p os i s).bind (pst p os j) := by
  unfold pst
  rw [stp_add]
  cases stp p os i s with
  | none => rfl
  | some c => exact (pst_plc c).symm
theorem pst_zero {p : Nat} {os : List Od} (s : Nat × Nat) : pst p os 0 s = some (plc p s) := rfl
/-- l is a loop: the places that f goes through, again and again -/
structure CycF (p : Nat) (os : List Od) (l : List (Nat × Nat)) (f : Nat → Nat × Nat) (n : Nat) : Prop where
  n0 : 0 < n
  eq : l = (List.range n).map f
  nd : l.Nodup
  nx : ∀ i, pst p os 1 (f i) = some (f (i + 1))
  per : ∀ i, f (i + n) = f i
def Cyc (p : Nat) (os : List Od) (l : List (Nat × Nat)) : Prop := ∃ f n, CycF p os l f n
section
variable {p : Nat} {os : List Od} {l l' : List (Nat × Nat)} {f g : Nat → Nat × Nat} {n m : Nat}
theorem CycF.len (c : CycF p os l f n) : l.length = n := by rw [c.eq, List.length_map, List.length_range]
theorem CycF.get (c : CycF p os l f n) {i : Nat} (h : i < n) : l[i]? = some (f i) := by rw [c.eq, List.getElem?_map, List.getElem?_range h]; rfl
theorem CycF.perk (c : CycF p os l f n) (i : Nat) : ∀ k, f (i + n * k) = f i
  | 0 => rfl
  | k + 1 => by
    rw [Nat.mul_succ, ← Nat.add_assoc, c.per]
    exact c.perk i k
theorem CycF.mod (c : CycF p os l f n) (i : Nat) : f (i % n) = f i := by
  have h := c.perk (i % n) (i / n)
  rw [Nat.mod_add_div] at h
  exact h.symm
theorem CycF.mem (c : CycF p os l f n) {x : Nat × Nat} : x ∈ l ↔ ∃ i, x = f i := by
  rw [c.eq, List.mem_map]
  constructor
  · rintro ⟨i, _, rfl⟩
    exact ⟨i, rfl⟩
  · rintro ⟨i, rfl⟩
    exact ⟨i % n, List.mem_range.mpr (Nat.mod_lt _ c.n0), c.mod i⟩
theorem CycF.inj (c : CycF p os l f n) {i j : Nat} (hi : i < n) (hj : j < n) (e : f i = f j) : i = j := by
  have a := c.get hi
  have b := c.get hj
  rw [← e] at b
  exact (List.getElem?_inj (by rw [c.len]; exact hi) c.nd).mp (a.trans b.symm)
theorem CycF.place (c : CycF p os l f n) (i : Nat) : plc p (f i) = f i := by
  have h := c.nx (i + (n - 1))
  have n0 := c.n0
  rw [show i + (n - 1) + 1 = i + n by omega, c.per] at h
  unfold pst at h
  obtain ⟨t, _, e⟩ := Option.map_eq_some_iff.mp h
  rw [← e]
  exact plc_plc t
theorem CycF.steps (c : CycF p os l f n) (i : Nat) : ∀ k, pst p os k (f i) = some (f (i + k))
  | 0 => by rw [pst_zero, c.place]; rfl
  | k + 1 => by
    rw [pst_add, c.steps i k]
    exact c.nx (i + k)
/-- the rest of both, from a shared place -/
theorem CycF.along (c : CycF p os l f n) (d : CycF p os l' g m) {i j : Nat} (e : f i = g j) (k : Nat) : f (i + k) = g (j + k) := by
  have a := c.steps i k
  rw [e, d.steps j k] at a
  exact (Option.some.inj a).symm
theorem CycF.le_of (c : CycF p os l f n) (d : CycF p os l' g m) {i j : Nat} (e : f i = g j) : n ≤ m := by
  refine Nat.le_of_not_lt fun lt => ?_
  have h := c.along d e m
  rw [d.per, ← e, ← c.mod (i + m), ← c.mod i] at h
  have n0 := c.n0
  have m0 := d.n0
  have := c.inj (Nat.mod_lt _ n0) (Nat.mod_lt _ n0) h
  have e2 : (i + m) % n = (i % n + m) % n := by rw [Nat.mod_add_mod]
  rw [e2] at this
  have hi := Nat.mod_lt i n0
  by_cases z : i % n + m < n
  · rw [Nat.mod_eq_of_lt z] at this
    omega
  · rw [Nat.mod_eq_sub_mod (by omega), Nat.mod_eq_of_lt (by omega)] at this
    omega
theorem CycF.same_len (c : CycF p os l f n) (d : CycF p os l' g m) {i j : Nat} (e : f i = g j) : n = m := Nat.le_antisymm (c.le_of d e) (d.le_of c e.symm)
theorem CycF.sub (c : CycF p os l f n) (d : CycF p os l' g m) {i j : Nat} (e : f i = g j) {x : Nat × Nat} (hx : x ∈ l) : x ∈ l' := by
  obtain ⟨k, rfl⟩ := c.mem.mp hx
  have h := c.along d e (k + (n * (i + 1) - i))
  have n0 := c.n0
  have hge : i ≤ n * (i + 1) := Nat.le_trans (Nat.le_succ i) (Nat.le_mul_of_pos_left _ n0)
  rw [show i + (k + (n * (i + 1) - i)) = k + n * (i + 1) by omega, c.perk] at h
  rw [h]
  exact d.mem.mpr ⟨_, rfl⟩
theorem CycF.eq_of_head (c : CycF p os l f n) (d : CycF p os l' g m) (e : f 0 = g 0) : l = l' := by
  obtain rfl := c.same_len d e
  rw [c.eq, d.eq]
  refine List.map_congr_left fun i _ => ?_
  have := c.along d e i
  rw [Nat.zero_add] at this
  exact this
theorem CycF.turn (c : CycF p os l f n) : CycF p os (l.drop 1 ++ l.take 1) (fun i => f (i + 1)) n := by
  have n0 := c.n0
  have hl : l.drop 1 ++ l.take 1 = (List.range n).map fun i => f (i + 1) := by
    obtain ⟨k, rfl⟩ : ∃ k, n = k + 1 := ⟨n - 1, by omega⟩
    have e1 : l = f 0 :: (List.range k).map fun i => f (i + 1) := by
      rw [c.eq, List.range_succ_eq_map, List.map_cons, List.map_map]
      rfl
    rw [e1, List.range_succ, List.map_append]
    show (List.range k).map _ ++ [f 0] = _
    have := c.per 0
    rw [Nat.zero_add] at this
    rw [← this]
    rfl
  refine ⟨n0, hl, ?_, fun i => c.nx (i + 1), fun i => ?_⟩
  · refine List.Perm.nodup (l := l) ?_ c.nd
    have h := List.perm_append_comm (l₁ := l.take 1) (l₂ := l.drop 1)
    rw [List.take_append_drop] at h
    exact h
  · show f (i + n + 1) = f (i + 1)
    rw [show i + n + 1 = (i + 1) + n by omega, c.per]
end
/-- stops, one before the other -/
def ltS (s t : Nat × Nat) : Bool := if s.1 = t.1 then decide (s.2 < t.2) else decide (s.1 < t.1)
theorem ltS_iff {s t : Nat × Nat} : ltS s t = true ↔ s.1 < t.1 ∨ (s.1 = t.1 ∧ s.2 < t.2) := by
  unfold ltS
  split
  · rename_i h
    rw [decide_eq_true_iff]
    omega
  · rename_i h
    rw [decide_eq_true_iff]
    omega
theorem ltS_no {s t : Nat × Nat} : ltS s t = false ↔ ¬ (s.1 < t.1 ∨ (s.1 = t.1 ∧ s.2 < t.2)) := by
  rw [← ltS_iff]
  cases ltS s t <;> simp
theorem ltS_anti {s t : Nat × Nat} (h1 : ltS s t = false) (h2 : ltS t s = false) : s = t := by
  have a := ltS_no.mp h1
  have b := ltS_no.mp h2
  exact Prod.ext (by omega) (by omega)
theorem ltS_trans {s t u : Nat × Nat} (h1 : ltS s t = true) (h2 : ltS t u = true) : ltS s u = true := by
  have a := ltS_iff.mp h1
  have b := ltS_iff.mp h2
  exact ltS_iff.mpr (by omega)
/-- the least stop -/
def minS (x : Nat × Nat) (xs : List (Nat × Nat)) : Nat × Nat := xs.foldl (fun a y => if ltS y a then y else a) x
theorem minS_spec : ∀ (xs : List (Nat × Nat)) (x : Nat × Nat), minS x xs ∈ x :: xs ∧ ∀ y ∈ x :: xs, ltS y (minS x xs) = false
  | [], x => ⟨List.mem_cons_self, fun y hy => by
      rw [List.mem_singleton.mp hy]
      exact ltS_no.mpr (by show ¬ (x.1 < x.1 ∨ (x.1 = x.1 ∧ x.2 < x.2)); omega)⟩
  | z :: r, x => by
    show minS (if ltS z x then z else x) r ∈ _ ∧ ∀ y ∈ _, ltS y (minS (if ltS z x then z else x) r) = false
    obtain ⟨h1, h2⟩ := minS_spec r (if ltS z x then z else x)
    generalize hw : (if ltS z x then z else x) = w at h1 h2
    have hwm : w = z ∨ w = x := by
      rw [← hw]
      split
      · exact .inl rfl
      · exact .inr rfl
    have hwl : ltS z w = false ∧ ltS x w = false := by
      by_cases c : ltS z x = true
      · rw [if_pos c] at hw
        subst hw
        have := ltS_iff.mp c
        exact ⟨ltS_no.mpr (by omega), ltS_no.mpr (by omega)⟩
      · rw [if_neg c] at hw
        subst hw
        exact ⟨Bool.eq_false_iff.mpr c, ltS_no.mpr (by omega)⟩
    refine ⟨?_, fun y hy => ?_⟩
    · rcases List.mem_cons.mp h1 with e | e
      · rw [e]
        rcases hwm with e | e <;> rw [e] <;> simp
      · exact List.mem_cons_of_mem _ (List.mem_cons_of_mem _ e)
    · have key : ∀ u, ltS u w = false → ltS u (minS w r) = false := fun u hu => by
        have a := ltS_no.mp hu
        have b := ltS_no.mp (h2 w List.mem_cons_self)
        exact ltS_no.mpr (by omega)
      rcases List.mem_cons.mp hy with e | e
      · rw [e]
        exact key x hwl.2
      · rcases List.mem_cons.mp e with e | e
        · rw [e]
          exact key z hwl.1
        · exact h2 y (List.mem_cons_of_mem _ e)
/-- a list that begins with its least stop -/
def hm : List (Nat × Nat) → Bool
  | [] => false
  | x :: xs => decide (x = minS x xs)
theorem hm_iff {x : Nat × Nat} {xs : List (Nat × Nat)} : hm (x :: xs) = true ↔ ∀ y ∈ x :: xs, ltS y x = false := by
  unfold hm
  rw [decide_eq_true_iff]
  obtain ⟨h1, h2⟩ := minS_spec xs x
  constructor
  · intro e
    rw [← e] at h2
    exact h2
  · intro h
    exact ltS_anti (h2 x List.mem_cons_self) (h _ h1)
section
variable {p : Nat} {os : List Od} {l l' : List (Nat × Nat)}
theorem Cyc.cons (c : Cyc p os l) : ∃ x xs, l = x :: xs := by
  obtain ⟨f, n, c⟩ := c
  cases l with
  | nil =>
    have a := c.len
    have b := c.n0
    simp at a
    omega
  | cons x xs => exact ⟨x, xs, rfl⟩
/-- loops that share a stop and begin with their least are the same -/
theorem Cyc.uniq (c : Cyc p os l) (d : Cyc p os l') (h : hm l = true) (h' : hm l' = true) {x : Nat × Nat} (hx : x ∈ l) (hx' : x ∈ l') : l = l' := by
  obtain ⟨f, n, c⟩ := c
  obtain ⟨g, m, d⟩ := d
  obtain ⟨i, rfl⟩ := c.mem.mp hx
  obtain ⟨j, e⟩ := d.mem.mp hx'
  have hf : l[0]? = some (f 0) := c.get c.n0
  have hg : l'[0]? = some (g 0) := d.get d.n0
  have m1 : f 0 ∈ l' := c.sub d e (List.mem_of_getElem? hf)
  have m2 : g 0 ∈ l := d.sub c e.symm (List.mem_of_getElem? hg)
  refine c.eq_of_head d ?_
  cases l with
  | nil => cases hf
  | cons x xs =>
    cases l' with
    | nil => cases hg
    | cons y ys =>
      obtain rfl : x = f 0 := Option.some.inj hf
      obtain rfl : y = g 0 := Option.some.inj hg
      exact ltS_anti (hm_iff.mp h' _ m1) (hm_iff.mp h _ m2)
theorem Cyc.turn (c : Cyc p os l) : Cyc p os (l.drop 1 ++ l.take 1) := by
  obtain ⟨f, n, c⟩ := c
  exact ⟨_, _, c.turn⟩
theorem turn_mem {x : Nat × Nat} : x ∈ l.drop 1 ++ l.take 1 ↔ x ∈ l := by
  have h := List.perm_append_comm (l₁ := l.take 1) (l₂ := l.drop 1)
  rw [List.take_append_drop] at h
  exact h.mem_iff.symm
end
/-! ### the loops of a net: plain mathematics -/
theorem pst_house {p h : Nat} {os : List Od} {st : Nat × Nat} (ok : NetOk p h os) (hh : st.1 < h) : ∀ (i : Nat) {s : Nat × Nat}, stp p os i st = some s → s.1 < h
  | 0, s, e => by
    cases e
    exact hh
  | i + 1, s, e => by
    obtain ⟨c, hc, e⟩ := Option.bind_eq_some_iff.mp (show (stp p os i st).bind (hop p os) = some s from e)
    exact hop_house ok e
theorem pst_get {p i : Nat} {os : List Od} {st s : Nat × Nat} (e : stp p os i st = some s) : pst p os i st = some (plc p s) := by
  unfold pst
  rw [e]
  rfl
theorem pst_next {p i : Nat} {os : List Od} {st s t : Nat × Nat} (e : stp p os i st = some s) (e2 : stp p os (i + 1) st = some t) : pst p os 1 (plc p s) = some (plc p t) := by
  have h := pst_add (p := p) (os := os) (i := i) (j := 1) st
  rw [pst_get e, pst_get e2] at h
  exact h.symm
/-- what a letter that chases goes through again and again, from where it comes back to -/
def rawOf (p h : Nat) (os : List Od) (q : Nat × Nat) : Option (List (Nat × Nat)) := match (folR p h os q).2 with
  | none => none
  | some b => some (((folR p h os q).1.dropLast.drop b).map (plc p))
/-- the loop of a letter that comes back to its first stop -/
def lpOf (p h : Nat) (os : List Od) (q : Nat × Nat) : Option (List (Nat × Nat)) := match (folR p h os q).2 with
  | some 0 => some ((folR p h os q).1.dropLast.map (plc p))
  | _ => none
theorem raw_cycF {p h : Nat} {os : List Od} {q : Nat × Nat} {l : List (Nat × Nat)} (ok : NetOk p h os) (hh : q.1 < h) (e : rawOf p h os q = some l) : Cyc p os l ∧ (∀ x ∈ l, x.1 < h) ∧
    ∃ m s b, folR p h os q = (m ++ [s], some b) ∧ l = (m.drop b).map (plc p) ∧ plc p s ∈ l ∧ b < m.length ∧ ∀ x xs, l = x :: xs → ∃ t, m[b]? = some t ∧ x = plc p t := by
  rcases folR_cases ok hh with ⟨l', e', _⟩ | ⟨m, s, b, t, k, e', hl, hb, hs, hk, nd⟩
  · unfold rawOf at e
    rw [e'] at e
    cases e
  · unfold rawOf at e
    rw [e'] at e
    simp only [List.dropLast_concat] at e
    obtain rfl := Option.some.inj e
    have hbl : b < m.length := (List.getElem?_eq_some_iff.mp hb).1
    have hget : ∀ i, i < m.length → ∃ c, m[i]? = some c ∧ stp p os i q = some c := fun i hi => by
      have a := hl i (Nat.le_of_lt hi)
      rw [List.getElem?_append_left hi] at a
      exact ⟨m[i], List.getElem?_eq_getElem hi, a.symm.trans (List.getElem?_eq_getElem hi)⟩
    have hgs : stp p os m.length q = some s := by
      have a := hl m.length (Nat.le_refl _)
      rw [List.getElem?_append_right (Nat.le_refl _), Nat.sub_self] at a
      exact a.symm
    have hst : plc p s = plc p t := by rw [hs, plc_shf]
    have n0 : 0 < m.length - b := by omega
    let f : Nat → Nat × Nat := fun i => plc p (m.getD (b + i % (m.length - b)) (0, 0))
    have hf : ∀ i, i < m.length - b → ∃ c, m[b + i]? = some c ∧ stp p os (b + i) q = some c ∧ f i = plc p c := fun i hi => by
      obtain ⟨c, h1, h2⟩ := hget (b + i) (by omega)
      refine ⟨c, h1, h2, ?_⟩
      show plc p (m.getD (b + i % (m.length - b)) (0, 0)) = _
      rw [Nat.mod_eq_of_lt hi, List.getD_eq_getElem?_getD, h1]
      rfl
    have per : ∀ i, f (i + (m.length - b)) = f i := fun i => by
      show plc p (m.getD (b + (i + (m.length - b)) % (m.length - b)) (0, 0)) = _
      rw [Nat.add_mod_right]
    have modf : ∀ i, f (i % (m.length - b)) = f i := fun i => by
      show plc p (m.getD (b + (i % (m.length - b)) % (m.length - b)) (0, 0)) = _
      rw [Nat.mod_mod]
    have eql : (m.drop b).map (plc p) = (List.range (m.length - b)).map f := by
      refine List.ext_getElem? fun i => ?_
      rw [List.getElem?_map, List.getElem?_drop, List.getElem?_map]
      by_cases hi : i < m.length - b
      · obtain ⟨c, h1, _, h3⟩ := hf i hi
        rw [h1, List.getElem?_range hi]
        show some (plc p c) = some (f i)
        rw [h3]
      · rw [List.getElem?_eq_none (by omega), List.getElem?_eq_none (by rw [List.length_range]; omega)]
        rfl
    have nx : ∀ i, pst p os 1 (f i) = some (f (i + 1)) := fun i => by
      have hi := Nat.mod_lt i n0
      obtain ⟨c, h1, h2, h3⟩ := hf _ hi
      rw [← modf i, h3]
      by_cases z : i % (m.length - b) + 1 < m.length - b
      · obtain ⟨c', _, g2, g3⟩ := hf _ z
        have e1 : f (i + 1) = f (i % (m.length - b) + 1) := by rw [← modf (i + 1), ← modf (i % (m.length - b) + 1), Nat.mod_add_mod]
        rw [e1, g3]
        exact pst_next h2 g2
      · have e1 : f (i + 1) = f 0 := by
          rw [← modf (i + 1), ← Nat.mod_add_mod, show i % (m.length - b) + 1 = m.length - b by omega, Nat.mod_self]
        obtain ⟨c', k1, _, k3⟩ := hf 0 n0
        rw [Nat.add_zero] at k1
        obtain rfl : t = c' := Option.some.inj (hb.symm.trans k1)
        rw [e1, k3, ← hst]
        refine pst_next h2 ?_
        rw [show b + i % (m.length - b) + 1 = m.length by omega]
        exact hgs
    have nd2 : ((m.drop b).map (plc p)).Nodup := by
      rw [List.map_drop]
      exact nd.sublist (List.drop_sublist _ _)
    refine ⟨⟨f, _, n0, eql, nd2, nx, per⟩, fun x hx => ?_, m, s, b, e', rfl, ?_, hbl, fun x xs ex => ?_⟩
    · obtain ⟨c, hc, rfl⟩ := List.mem_map.mp hx
      obtain ⟨i, hi⟩ := List.getElem?_of_mem (List.mem_of_mem_drop hc)
      obtain ⟨c', k1, k2⟩ := hget i (List.getElem?_eq_some_iff.mp hi).1
      obtain rfl : c' = c := Option.some.inj (k1.symm.trans hi)
      exact (show c'.1 < h from pst_house ok hh i k2)
    · rw [hst]
      refine List.mem_map.mpr ⟨t, List.mem_of_getElem? (i := 0) ?_, rfl⟩
      rw [List.getElem?_drop]
      exact hb
    · have h0 : ((m.drop b).map (plc p))[0]? = some x := by rw [ex]; rfl
      rw [List.getElem?_map, List.getElem?_drop, Nat.add_zero, hb] at h0
      exact ⟨t, hb, (Option.some.inj h0).symm⟩
theorem lp_raw {p h : Nat} {os : List Od} {q : Nat × Nat} {l : List (Nat × Nat)} (e : lpOf p h os q = some l) : rawOf p h os q = some l := by
  unfold lpOf at e
  unfold rawOf
  split at e
  · rename_i h2
    rw [h2]
    exact e
  · cases e
theorem lp_cyc {p h : Nat} {os : List Od} {q : Nat × Nat} {l : List (Nat × Nat)} (ok : NetOk p h os) (hh : q.1 < h) (e : lpOf p h os q = some l) : Cyc p os l ∧ (∀ x ∈ l, x.1 < h) ∧ ∃ xs, l = plc p q :: xs := by
  obtain ⟨c, hx, m, s, b, e1, e2, _, hb, hd⟩ := raw_cycF ok hh (lp_raw e)
  refine ⟨c, hx, ?_⟩
  obtain ⟨x, xs, rfl⟩ := c.cons
  refine ⟨xs, ?_⟩
  obtain ⟨t, ht, rfl⟩ := hd x xs rfl
  unfold lpOf at e
  rw [e1] at e
  have b0 : b = 0 := by
    cases b with
    | zero => rfl
    | succ n => cases e
  subst b0
  have : (way p os (h * p + 1) q)[0]? = some q := by
    rw [show way p os (h * p + 1) q = rest p os (h * p + 1) (some q) from rfl, rest_succ]
    rfl
  rcases folR_cases ok hh with ⟨l', e', _⟩ | ⟨m', s', b', t', k, e', hl, _⟩
  · rw [e1] at e'
    cases e'
  · rw [e1] at e'
    have e5 := (Prod.mk.inj e').1
    have h0 := hl 0 (Nat.zero_le _)
    rw [← e5, List.getElem?_append_left hb, ht] at h0
    obtain rfl : t = q := Option.some.inj h0
    rfl
/-- a letter that is posted on a loop comes back to its first stop -/
theorem cyc_lp {p h n : Nat} {os : List Od} {l : List (Nat × Nat)} {f : Nat → Nat × Nat} (ok : NetOk p h os) (c : CycF p os l f n) (hq : (f 0).1 < h) : lpOf p h os (f 0) = some l ∧ (folR p h os (f 0)).2 = some 0 := by
  have st : ∀ i, ∃ s, stp p os i (f 0) = some s ∧ plc p s = f i := fun i => by
    have h1 := c.steps 0 i
    rw [Nat.zero_add] at h1
    exact Option.map_eq_some_iff.mp h1
  rcases folR_cases ok hq with ⟨l', _, _, hl, _⟩ | ⟨m, s, b, t, k, e', hl, hb, hs, hk, nd⟩
  · obtain ⟨s, h1, _⟩ := st l'.length
    rw [← hl, List.getElem?_eq_none (Nat.le_refl _)] at h1
    cases h1
  · have hbl : b < m.length := (List.getElem?_eq_some_iff.mp hb).1
    have n0 := c.n0
    have hmf : m.map (plc p) = (List.range m.length).map f := by
      refine List.ext_getElem? fun i => ?_
      rw [List.getElem?_map, List.getElem?_map]
      by_cases hi : i < m.length
      · have a := hl i (Nat.le_of_lt hi)
        rw [List.getElem?_append_left hi] at a
        obtain ⟨s', h1, h2⟩ := st i
        rw [a, h1, List.getElem?_range hi]
        show some (plc p s') = some (f i)
        rw [h2]
      · rw [List.getElem?_eq_none (by omega), List.getElem?_eq_none (by rw [List.length_range]; omega)]
        rfl
    have fs : f m.length = f b := by
      have a := hl m.length (Nat.le_refl _)
      rw [List.getElem?_append_right (Nat.le_refl _), Nat.sub_self] at a
      obtain ⟨s', h1, h2⟩ := st m.length
      have e1 : s = s' := Option.some.inj (a.trans h1)
      have a2 := hl b (Nat.le_of_lt hbl)
      rw [List.getElem?_append_left hbl, hb] at a2
      obtain ⟨t', h3, h4⟩ := st b
      have e2 : t = t' := Option.some.inj (a2.trans h3)
      rw [← h2, ← h4, ← e1, ← e2, hs, plc_shf]
    have hle : m.length ≤ n := by
      refine Nat.le_of_not_lt fun lt => ?_
      have a1 : (m.map (plc p))[n]? = some (f n) := by rw [hmf, List.getElem?_map, List.getElem?_range lt]; rfl
      have a2 : (m.map (plc p))[0]? = some (f 0) := by rw [hmf, List.getElem?_map, List.getElem?_range (by omega)]; rfl
      have p0 := c.per 0
      rw [Nat.zero_add] at p0
      rw [p0] at a1
      have := (List.getElem?_inj (by rw [List.length_map]; exact lt) nd).mp (a1.trans a2.symm)
      omega
    have hln : m.length = n := by
      refine Nat.le_antisymm hle (Nat.le_of_not_lt fun lt => ?_)
      have := c.inj lt (by omega) fs
      omega
    have b0 : b = 0 := by
      have p0 := c.per 0
      rw [Nat.zero_add, ← hln] at p0
      rw [p0] at fs
      exact (c.inj n0 (by omega) fs).symm
    subst b0
    unfold lpOf
    rw [e']
    refine ⟨?_, rfl⟩
    show some ((m ++ [s]).dropLast.map (plc p)) = _
    rw [List.dropLast_concat, hmf, hln, ← c.eq]
/-- the loop's turn that begins with its least stop -/
def canon (p h : Nat) (os : List Od) (l : List (Nat × Nat)) : List (Nat × Nat) := (lpOf p h os (minS (l.headD (0, 0)) l.tail)).getD []
theorem CycF.turns {p n : Nat} {os : List Od} {l : List (Nat × Nat)} {f : Nat → Nat × Nat} (c : CycF p os l f n) : ∀ i, ∃ l', CycF p os l' (fun j => f (i + j)) n ∧ ∀ x, x ∈ l' ↔ x ∈ l
  | 0 => ⟨l, by simpa using c, fun _ => Iff.rfl⟩
  | i + 1 => by
    obtain ⟨l', c', h'⟩ := c.turns i
    refine ⟨_, ?_, fun x => turn_mem.trans (h' x)⟩
    have := c'.turn
    have e : (fun j => f (i + (j + 1))) = fun j => f (i + 1 + j) := funext fun j => by rw [show i + (j + 1) = i + 1 + j by omega]
    rw [e] at this
    exact this
theorem canon_spec {p h : Nat} {os : List Od} {l : List (Nat × Nat)} (ok : NetOk p h os) (c : Cyc p os l) (hl : ∀ x ∈ l, x.1 < h) :
    Cyc p os (canon p h os l) ∧ hm (canon p h os l) = true ∧ (∀ x, x ∈ canon p h os l ↔ x ∈ l) ∧ ∃ q xs, canon p h os l = q :: xs ∧ lpOf p h os q = some (canon p h os l) ∧ plc p q = q ∧ q.1 < h := by
  obtain ⟨x, xs, rfl⟩ := c.cons
  obtain ⟨f, n, c⟩ := c
  obtain ⟨h1, h2⟩ := minS_spec xs x
  obtain ⟨i, ei⟩ := c.mem.mp h1
  obtain ⟨l', c', hm'⟩ := c.turns i
  have hq : (f (i + 0)).1 < h := by
    rw [Nat.add_zero, ← ei]
    exact hl _ h1
  obtain ⟨g1, _⟩ := cyc_lp ok c' hq
  have ec : canon p h os (x :: xs) = l' := by
    show (lpOf p h os (minS x xs)).getD [] = l'
    rw [ei]
    show (lpOf p h os (f i)).getD [] = l'
    rw [show f i = f (i + 0) from rfl, g1]
    rfl
  rw [ec]
  have h0 : l'[0]? = some (f (i + 0)) := c'.get c'.n0
  obtain ⟨y, ys, rfl⟩ := Cyc.cons ⟨_, _, c'⟩
  obtain rfl : y = f (i + 0) := Option.some.inj h0
  refine ⟨⟨_, _, c'⟩, hm_iff.mpr fun z hz => ?_, hm', _, _, rfl, g1, c.place _, hq⟩
  show ltS z (f i) = false
  rw [← ei]
  exact h2 z ((hm' z).mp hz)
theorem canon_eq {p h : Nat} {os : List Od} {l l' : List (Nat × Nat)} (ok : NetOk p h os) (c : Cyc p os l) (hl : ∀ x ∈ l, x.1 < h) (c' : Cyc p os l') (hm' : hm l' = true) {x : Nat × Nat} (hx : x ∈ l) (hx' : x ∈ l') : canon p h os l = l' := by
  obtain ⟨a1, a2, a3, _⟩ := canon_spec ok c hl
  exact a1.uniq c' a2 hm' ((a3 x).mpr hx) hx'
/-- all letters of a period -/
def lets (p h : Nat) : List (Nat × Nat) := (List.range h).flatMap fun a => (List.range p).map fun d => (a, d)
theorem mem_lets {p h : Nat} {q : Nat × Nat} : q ∈ lets p h ↔ q.1 < h ∧ q.2 < p := by
  unfold lets
  rw [List.mem_flatMap]
  constructor
  · rintro ⟨a, ha, hq⟩
    obtain ⟨d, hd, rfl⟩ := List.mem_map.mp hq
    exact ⟨List.mem_range.mp ha, List.mem_range.mp hd⟩
  · rintro ⟨h1, h2⟩
    exact ⟨q.1, List.mem_range.mpr h1, List.mem_map.mpr ⟨q.2, List.mem_range.mpr h2, rfl⟩⟩
theorem lets_pw {p h : Nat} : (lets p h).Pairwise fun a b => ltS a b = true := by
  unfold lets
  rw [List.pairwise_flatMap]
  refine ⟨fun a _ => ?_, ?_⟩
  · rw [List.pairwise_map]
    exact List.pairwise_lt_range.imp (R := fun x y => x < y) (S := fun d e => ltS (a, d) (a, e) = true) fun {d e} q => ltS_iff.mpr (.inr ⟨rfl, q⟩)
  · refine List.pairwise_lt_range.imp fun {a b} q => ?_
    intro x hx y hy
    obtain ⟨_, _, rfl⟩ := List.mem_map.mp hx
    obtain ⟨_, _, rfl⟩ := List.mem_map.mp hy
    exact ltS_iff.mpr (.inl q)
theorem lets_plc {p h : Nat} {q : Nat × Nat} (hq : q ∈ lets p h) : plc p q = q := by
  obtain ⟨_, h2⟩ := mem_lets.mp hq
  unfold plc
  rw [Nat.mod_eq_of_lt h2]
theorem lets_len {p h : Nat} : (lets p h).length = h * p := by
  unfold lets
  rw [List.length_flatMap]
  simp only [List.length_map, List.length_range]
  induction h with
  | zero => simp
  | succ h ih => rw [List.range_succ, List.map_append, List.sum_append, ih, Nat.succ_mul]; simp
/-- the loop that a letter's least stop begins -/
def goodL (p h : Nat) (os : List Od) (q : Nat × Nat) : Option (List (Nat × Nat)) := match lpOf p h os q with
  | some l => if hm l = true then some l else none
  | none => none
def loopsN (p h : Nat) (os : List Od) : List (List (Nat × Nat)) := (lets p h).filterMap (goodL p h os)
theorem goodL_some {p h : Nat} {os : List Od} {q : Nat × Nat} {l : List (Nat × Nat)} (e : goodL p h os q = some l) : lpOf p h os q = some l ∧ hm l = true := by
  unfold goodL at e
  split at e
  · rename_i l' e'
    split at e
    · rename_i hm'
      obtain rfl := Option.some.inj e
      exact ⟨e', hm'⟩
    · cases e
  · cases e
theorem goodL_of {p h : Nat} {os : List Od} {q : Nat × Nat} {l : List (Nat × Nat)} (e : lpOf p h os q = some l) (hm' : hm l = true) : goodL p h os q = some l := by
  unfold goodL
  rw [e]
  exact if_pos hm'
theorem mem_loopsN {p h : Nat} {os : List Od} (ok : NetOk p h os) {l : List (Nat × Nat)} : l ∈ loopsN p h os ↔ Cyc p os l ∧ hm l = true ∧ ∀ x ∈ l, x.1 < h := by
  unfold loopsN
  rw [List.mem_filterMap]
  constructor
  · rintro ⟨q, hq, e⟩
    obtain ⟨e1, e2⟩ := goodL_some e
    obtain ⟨c, hx, _⟩ := lp_cyc ok (mem_lets.mp hq).1 e1
    exact ⟨c, e2, hx⟩
  · rintro ⟨⟨f, n, c⟩, hm', hx⟩
    have h0 : f 0 ∈ l := c.mem.mpr ⟨0, rfl⟩
    have hp : (f 0).2 < p := by
      have := c.place 0
      have e : (f 0).2 % p = (f 0).2 := congrArg Prod.snd this
      rw [← e]
      exact Nat.mod_lt _ ok.p1
    exact ⟨f 0, mem_lets.mpr ⟨hx _ h0, hp⟩, goodL_of (cyc_lp ok c (hx _ h0)).1 hm'⟩
theorem loopsN_pw {p h : Nat} {os : List Od} (ok : NetOk p h os) : (loopsN p h os).Pairwise fun a b => ltS (a.headD (0, 0)) (b.headD (0, 0)) = true := by
  unfold loopsN
  rw [List.pairwise_filterMap]
  refine List.Pairwise.imp_of_mem ?_ (lets_pw (p := p) (h := h))
  intro a b ha hb q l el l' el'
  obtain ⟨_, _, xs, rfl⟩ := lp_cyc ok (mem_lets.mp ha).1 (goodL_some el).1
  obtain ⟨_, _, ys, rfl⟩ := lp_cyc ok (mem_lets.mp hb).1 (goodL_some el').1
  show ltS (plc p a) (plc p b) = true
  rw [lets_plc ha, lets_plc hb]
  exact q
theorem loopsN_nd {p h : Nat} {os : List Od} (ok : NetOk p h os) : (loopsN p h os).Nodup := (loopsN_pw ok).imp fun {a b} q e => by
  subst e
  have := ltS_iff.mp q
  omega
/-- what the law finds, letter by letter -/
def fndF (p h : Nat) (os : List Od) (acc : List (List (Nat × Nat))) (q : Nat × Nat) : List (List (Nat × Nat)) := match rawOf p h os q with
  | none => acc
  | some l => if canon p h os l ∈ acc then acc else acc ++ [canon p h os l]
def fnd (p h : Nat) (os : List Od) (qs : List (Nat × Nat)) : List (List (Nat × Nat)) := qs.foldl (fndF p h os) []
theorem fnd_snoc {p h : Nat} {os : List Od} {qs : List (Nat × Nat)} {q : Nat × Nat} : fnd p h os (qs ++ [q]) = fndF p h os (fnd p h os qs) q := by
  unfold fnd
  rw [List.foldl_append]
  rfl
theorem fndF_mem {p h : Nat} {os : List Od} {acc : List (List (Nat × Nat))} {q : Nat × Nat} {l : List (Nat × Nat)} : l ∈ fndF p h os acc q ↔ l ∈ acc ∨ ∃ r, rawOf p h os q = some r ∧ canon p h os r = l := by
  unfold fndF
  cases e : rawOf p h os q with
  | none => simp
  | some r =>
    show l ∈ (if canon p h os r ∈ acc then acc else acc ++ [canon p h os r]) ↔ _
    split
    · rename_i hm'
      constructor
      · exact .inl
      · rintro (a | ⟨r', e', rfl⟩)
        · exact a
        · cases e'
          exact hm'
    · rw [List.mem_append, List.mem_singleton]
      constructor
      · rintro (a | a)
        · exact .inl a
        · exact .inr ⟨r, rfl, a.symm⟩
      · rintro (a | ⟨r', e', a⟩)
        · exact .inl a
        · cases e'
          exact .inr a.symm
theorem fndF_nd {p h : Nat} {os : List Od} {acc : List (List (Nat × Nat))} {q : Nat × Nat} (nd : acc.Nodup) : (fndF p h os acc q).Nodup := by
  unfold fndF
  split
  · exact nd
  · rename_i r _
    split
    · exact nd
    · rename_i hno
      rw [List.nodup_append]
      refine ⟨nd, List.nodup_cons.mpr ⟨by simp, List.nodup_nil⟩, fun a ha b hb e => ?_⟩
      rw [List.mem_singleton.mp hb] at e
      exact hno (e ▸ ha)
theorem fnd_spec {p h : Nat} {os : List Od} (qs : List (Nat × Nat)) : ∀ acc : List (List (Nat × Nat)), acc.Nodup → (qs.foldl (fndF p h os) acc).Nodup ∧ ∀ l, l ∈ qs.foldl (fndF p h os) acc ↔ l ∈ acc ∨ ∃ q ∈ qs, ∃ r, rawOf p h os q = some r ∧ canon p h os r = l := by
  induction qs with
  | nil => exact fun acc nd => ⟨nd, fun l => by simp⟩
  | cons q qs ih =>
    intro acc nd
    obtain ⟨h1, h2⟩ := ih (fndF p h os acc q) (fndF_nd nd)
    refine ⟨h1, fun l => ?_⟩
    rw [List.foldl_cons, h2, fndF_mem]
    constructor
    · rintro ((a | a) | ⟨q', hq', a⟩)
      · exact .inl a
      · exact .inr ⟨q, List.mem_cons_self, a⟩
      · exact .inr ⟨q', List.mem_cons_of_mem _ hq', a⟩
    · rintro (a | ⟨q', hq', a⟩)
      · exact .inl (.inl a)
      · rcases List.mem_cons.mp hq' with rfl | z
        · exact .inl (.inr a)
        · exact .inr ⟨q', z, a⟩
theorem fnd_perm {p h : Nat} {os : List Od} (ok : NetOk p h os) : (fnd p h os (lets p h)).Perm (loopsN p h os) := by
  obtain ⟨h1, h2⟩ := fnd_spec (p := p) (h := h) (os := os) (lets p h) [] List.nodup_nil
  refine (List.perm_ext_iff_of_nodup h1 (loopsN_nd ok)).mpr fun l => ?_
  rw [h2]
  constructor
  · rintro (a | ⟨q, hq, r, e, rfl⟩)
    · cases a
    · obtain ⟨c, hx, _⟩ := raw_cycF ok (mem_lets.mp hq).1 e
      obtain ⟨a1, a2, a3, _⟩ := canon_spec ok c hx
      exact (mem_loopsN ok).mpr ⟨a1, a2, fun x hx' => hx x ((a3 x).mp hx')⟩
  · intro hl
    obtain ⟨c, hm', hx⟩ := (mem_loopsN ok).mp hl
    obtain ⟨q, hq, e⟩ := List.mem_filterMap.mp hl
    obtain ⟨x, xs, rfl⟩ := c.cons
    exact .inr ⟨q, hq, _, lp_raw (goodL_some e).1, canon_eq ok c hx c hm' List.mem_cons_self List.mem_cons_self⟩
/-- loops that share a stop are one -/
theorem loopsN_share {p h : Nat} {os : List Od} (ok : NetOk p h os) {l l' : List (Nat × Nat)} {x : Nat × Nat} (hl : l ∈ loopsN p h os) (hl' : l' ∈ loopsN p h os) (hx : x ∈ l) (hx' : x ∈ l') : l = l' := by
  obtain ⟨c, m1, _⟩ := (mem_loopsN ok).mp hl
  obtain ⟨c', m2, _⟩ := (mem_loopsN ok).mp hl'
  exact c.uniq c' m1 m2 hx hx'
abbrev s_letters : Stmt := top 23
abbrev N_letters : List Str := ["net", "house", "day"]
abbrev P_letters : List Str := ["net"]
theorem sc_letters : FnScope N_letters P_letters (defScope s_letters) := ⟨rfl, rfl, rfl, by decide +kernel, rfl, by decide +kernel, by decide +kernel⟩
/-! ### all letters of a period; stops by the days of the period -/
def spLets (C : Addr) : Sp := fun vs H Q _ => ∃ (x t : Addr) (p h : Nat) (os : List Od) (F : List Addr), vs = [.ref x] ∧ NetAt C H x p h os t F ∧ NetOk p h os ∧
  ∀ H' r ws, Same H H' → H r = none → H' r = some (.lst ws) → Paired (StopAt H') ws (lets p h) → Q (.ref r) H'
theorem lets_step {p h i j : Nat} (hi : i < h) (hj : j < p) : ((List.range i).flatMap fun a => (List.range p).map fun d => (a, d)) ++ ((List.range (j + 1)).map fun d => (i, d)) = (((List.range i).flatMap fun a => (List.range p).map fun d => (a, d)) ++ ((List.range j).map fun d => (i, d))) ++ [(i, j)] := by
  rw [List.range_succ, List.map_append, List.append_assoc]
  rfl
theorem lets_row {p i : Nat} : ((List.range (i + 1)).flatMap fun a => (List.range p).map fun d => (a, d)) = ((List.range i).flatMap fun a => (List.range p).map fun d => (a, d)) ++ ((List.range p).map fun d => (i, d)) := by
  rw [List.range_succ, List.flatMap_append]
  simp
theorem rows_len {p i j : Nat} : (((List.range i).flatMap fun a => (List.range p).map fun d => (a, d)) ++ ((List.range j).map fun d => (i, d))).length = i * p + j := by
  rw [List.length_append, List.length_map, List.length_range]
  have := lets_len (p := p) (h := i)
  unfold lets at this
  rw [this]
section
variable {P : Program} {w : World} {K : PySem.W.Frag} {mg : Str → Option Value} {base : Heap}
theorem ok_letters {f C : Addr} {fd : FuncData} (F : Fun K "letters" "letters" s_letters f fd) (B : Blt mg) (T : NetT K C) : FnOk P w K mg base CX0 2 f fd P_letters (spLets C) := by
  refine F.ok sc_letters (fun vs H Q E h => ?_) (fun cdv A outer s H vs Q E hr h => ?_)
  · obtain ⟨x, t, p, h, os, F, rfl, _⟩ := h
    rfl
  · obtain ⟨x, t, p, h, os, F, rfl, Nt, nok, q⟩ := h
    refine ⟨_, pss_one (ps_ret (pe_lc2 (own := [("house", 1), ("day", 2)]) (vs1 := [2]) (g := gName 1) (g1 := gName 2) (tt := tYes) (tt1 := tYes) (wi1 := iRng1 (tCons (tFld K (tVar 0) "period") tNil)) (te := tTup (tCons (tVar 1) (tCons (tVar 2) tNil))) (by rfl) sc_letters.nd (pi_range1 rfl B.range (pa_cons (pe_fld (pv 0) rfl) pa_nil))
          (blkOk_by (N := N_letters) (sc := defScope s_letters) (by decide +kernel)) (by intro i hi; simp at hi; simp [hi]) (fun _ _ _ _ _ => pg_name (i := 1) sc_letters.nd rfl (.inl rfl)) (fun _ _ _ _ _ => pts_nil)
          (fun _ _ _ _ _ => pi_range1 rfl B.range (pa_cons (pe_fld (pv 0) rfl) pa_nil)) (fun _ _ _ _ _ => pg_name (i := 2) sc_letters.nd rfl (.inl rfl)) (fun _ _ _ _ _ => pts_nil) (fun _ _ _ _ _ => pe_tup (pa_cons (pv 1) (pa_cons (pv 2) pa_nil))))), ?_⟩
    have p30 := nok.p30; have h10 := nok.h10
    obtain ⟨dx, fl, as, _, hx, _⟩ := id Nt
    have big : h * p ≤ 300 := Nat.mul_le_mul h10 p30
    refine ⟨_, rfl, x, C, dx, _, _, rfl, hx, T.cl, T.nH, nf_ho, (h : Int), rfl, by omega, by omega, fun D nD => ?_⟩
    have nDF := Nt.new nD
    refine lc2_rng (lo := 0) (n := (h : Int).toNat) (fun i H' => ∃ ws, NetAt C H' x p h os t F ∧ Same H H' ∧ H' D = some (.lst ws) ∧ Paired (StopAt H') ws ((List.range i).flatMap fun a => (List.range p).map fun d => (a, d))) ⟨[], Nt.same (same_upd nD), same_upd nD, upd_same, .nil⟩ ?_ ?_
    · rintro i H1 hi ⟨ws, N1, s1, hD, hw⟩
      have hi2 : i < h := by omega
      obtain ⟨dx1, _, _, _, hx1, _⟩ := id N1
      refine ⟨rfl, _, rfl, x, C, dx1, _, _, rfl, hx1, T.cl, T.nP, nf_pe, (p : Int), rfl, by omega, by omega, ?_⟩
      refine in_rng (lo := 0) (n := (p : Int).toNat) (fun j H' => ∃ ws, NetAt C H' x p h os t F ∧ Same H H' ∧ H' D = some (.lst ws) ∧ Paired (StopAt H') ws (((List.range i).flatMap fun a => (List.range p).map fun d => (a, d)) ++ ((List.range j).map fun d => (i, d)))) ⟨ws, N1, s1, hD, by rw [List.range_zero, List.map_nil, List.append_nil]; exact hw⟩ ?_ ?_
      · rintro j H2 hj ⟨ws, N2, s2, hD2, hw2⟩
        have hj2 : j < p := by omega
        refine ⟨rfl, _, rfl, _, rfl, (by show 2 ≤ sizeLine; decide), fun u nu => ?_⟩
        have s3 := same_upd (o := HO.tup [.int (0 + (i : Int)), .int (0 + (j : Int))]) nu
        have hD3 := s3 _ _ hD2
        have nuD : u ≠ D := (ne_of_none hD2 nu).symm
        refine ⟨ws, hD3, ?_, ?_⟩
        · rw [hw2.length, rows_len]
          have : i * p + p ≤ h * p := by
            rw [← Nat.succ_mul]
            exact Nat.mul_le_mul_right _ hi2
          exact small1000 (by omega)
        · have k := TupKeep.lst (o := HO.lst (ws ++ [.ref u])) hD3
          refine ⟨ws ++ [.ref u], (N2.same s3).but (d := D) .upd k nDF, fun b o e => ?_, upd_same, ?_⟩
          · rw [upd_ne (ne_of_none e nD)]
            exact s3 _ _ (s2 _ _ e)
          · rw [lets_step hi2 hj2]
            refine Paired.snoc (StopsAt.keep (tk_of s3 |>.trans k) hw2) ⟨u, rfl, ?_⟩
            rw [upd_ne nuD, upd_same, Int.zero_add, Int.zero_add]
      · rintro H2 ⟨ws, N2, s2, hD2, hw2⟩
        refine ⟨ws, N2, s2, hD2, ?_⟩
        rw [lets_row]
        exact hw2
    · rintro H1 ⟨ws, N1, s1, hD, hw⟩
      exact q H1 D ws s1 nD hD hw
end
abbrev s_day_stops : Stmt := top 24
abbrev N_day_stops : List Str := ["net", "stops", "house", "day"]
abbrev P_day_stops : List Str := ["net", "stops"]
theorem sc_day_stops : FnScope N_day_stops P_day_stops (defScope s_day_stops) := ⟨rfl, rfl, rfl, by decide +kernel, rfl, by decide +kernel, by decide +kernel⟩
/-! ### stops by the days of the period -/
section
variable {P : Program} {w : World} {K : PySem.W.Frag} {mg : Str → Option Value} {base : Heap}
/-- stops, with their days of the period: a new list of new tuples -/
def spDst (C : Addr) : Sp := fun vs H Q _ => ∃ (x t a : Addr) (p h : Nat) (os : List Od) (F : List Addr) (ws : List V) (l : List (Nat × Nat)), vs = [.ref x, .ref a] ∧ NetAt C H x p h os t F ∧ NetOk p h os ∧ H a = some (.lst ws) ∧ Paired (StopAt H) ws l ∧ l.length ≤ 400 ∧
  ∀ H' r us, Same H H' → H r = none → H' r = some (.lst us) → Paired (StopAt H') us (l.map (plc p)) → Q (.ref r) H'
theorem ok_dst {f C : Addr} {fd : FuncData} (F : Fun K "day_stops" "day_stops" s_day_stops f fd) (T : NetT K C) : FnOk P w K mg base CX0 2 f fd P_day_stops (spDst C) := by
  refine F.ok sc_day_stops (fun vs H Q E h => ?_) (fun cdv A outer s H vs Q E hr h => ?_)
  · obtain ⟨x, t, a, p, h, os, F, ws, l, rfl, _⟩ := h
    rfl
  · obtain ⟨x, t, a, p, h, os, F, ws, l, rfl, Nt, nok, ha, hw, hl, q⟩ := h
    refine ⟨_, pss_one (ps_ret (pe_lc (own := [("house", 2), ("day", 3)]) (g := gTup K 2 (gCons (gName 2) (gCons (gName 3) gNil))) (tt := tYes) (te := tTup (tCons (tVar 2) (tCons (tOp (rI (fun _ j => j ≠ 0) fun i j => .int (i.fmod j)) (tVar 3) (tFld K (tVar 0) "period")) tNil))) (by rfl) sc_day_stops.nd (pi_list (pv 1))
            (blkOk_by (N := N_day_stops) (sc := defScope s_day_stops) (by decide +kernel)) (fun _ _ _ _ _ => pg_tup (by rfl) (pgs_cons (pg_name (i := 2) sc_day_stops.nd rfl (.inl rfl)) (pgs_cons (pg_name (i := 3) sc_day_stops.nd rfl (.inl rfl)) pgs_nil))) (fun _ _ _ _ _ => pts_nil)
            (fun _ _ _ _ _ => pe_tup (pa_cons (pv 2) (pa_cons (pe_op op_modN (pv 3) (pe_fld (pv 0) rfl)) pa_nil))))), ?_⟩
    have p1 := nok.p1
    refine ⟨_, rfl, a, rfl, ⟨_, SqL.of ha⟩, fun D nD => ?_⟩
    have nDF := Nt.new nD
    have naD : a ≠ D := ne_of_none ha nD
    have hlen := hw.length
    refine lc_list (K := K) (a := a) (xs := ws) (fun j H' => ∃ us, NetAt C H' x p h os t F ∧ Same H H' ∧ H' D = some (.lst us) ∧ Paired (StopAt H') us ((l.take j).map (plc p))) ⟨[], Nt.same (same_upd nD), same_upd nD, upd_same, .nil⟩ (fun j H' _ ⟨us, N', s', _⟩ => SqL.of (s' _ _ ha)) ?_ ?_
    · rintro j v H1 hj ⟨us, N1, s1, hD, hu⟩
      have lt : j < l.length := by rw [← hlen]; exact (List.getElem?_eq_some_iff.mp hj).1
      have ej := List.getElem?_eq_getElem lt
      obtain ⟨v', hv', hvs⟩ := Paired.get? (i := j) hw ej
      obtain rfl : v' = v := Option.some.inj (hv'.symm.trans hj)
      generalize l[j] = sj at ej hvs
      obtain ⟨u0, rfl, hu0⟩ := hvs
      obtain ⟨dx, _, _, _, hx, _⟩ := id N1
      refine ⟨u0, _, rfl, SqT.of (s1 _ _ hu0), rfl, _, _, rfl, _, _, rfl, rfl, rfl, ?_⟩
      refine ⟨_, rfl, _, rfl, _, rfl, x, C, dx, _, _, rfl, hx, T.cl, T.nP, nf_pe, _, _, rfl, rfl, by omega, (by show 2 ≤ sizeLine; decide), fun u nu => ?_⟩
      have s3 := same_upd (o := HO.tup [.int sj.1, .int ((sj.2 : Int).fmod (p : Int))]) nu
      have hD3 := s3 _ _ hD
      have nuD : u ≠ D := (ne_of_none hD nu).symm
      have k := TupKeep.lst (o := HO.lst (us ++ [.ref u])) hD3
      refine ⟨us, hD3, ?_, us ++ [.ref u], (N1.same s3).but (d := D) .upd k nDF, fun b o e => ?_, upd_same, ?_⟩
      · rw [hu.length, List.length_map, List.length_take]
        exact small1000 (by omega)
      · rw [upd_ne (ne_of_none e nD)]
        exact s3 _ _ (s1 _ _ e)
      · rw [List.take_add_one, ej, List.map_append]
        refine Paired.snoc (StopsAt.keep (tk_of s3 |>.trans k) hu) ⟨u, rfl, ?_⟩
        rw [upd_ne nuD, upd_same]
        show some (HO.tup [V.int sj.1, V.int ((sj.2 : Int).fmod (p : Int))]) = _
        rw [fmod_nat]
        rfl
    · rintro H1 ⟨us, N1, s1, hD, hu⟩
      rw [hlen, List.take_of_length_le (Nat.le_refl _)] at hu
      exact q H1 D us s1 nD hD hu
end
abbrev s_slowest : Stmt := top 20
abbrev N_slowest : List Str := ["net", "best", "house", "day", "stops", "back", "days"]
abbrev P_slowest : List Str := ["net"]
theorem sc_slowest : FnScope N_slowest P_slowest (defScope s_slowest) := ⟨rfl, rfl, rfl, by decide +kernel, rfl, by decide +kernel, by decide +kernel⟩
/-! ### the slowest letter -/
/-- one more letter, whose stops are these -/
def slowR (res : List (Nat × Nat) × Option Nat) (acc : Option (Nat × Nat × Nat)) (q : Nat × Nat) : Option (Nat × Nat × Nat) := match res.2 with
  | some _ => acc
  | none => match acc with
    | none => some ((res.1.getLastD q).2 - q.2, q.1, q.2)
    | some b => if b.1 < (res.1.getLastD q).2 - q.2 then some ((res.1.getLastD q).2 - q.2, q.1, q.2) else some b
def slowF (p h : Nat) (os : List Od) (acc : Option (Nat × Nat × Nat)) (q : Nat × Nat) : Option (Nat × Nat × Nat) := slowR (folR p h os q) acc q
def slowN (p h : Nat) (os : List Od) : Option (Nat × Nat × Nat) := (lets p h).foldl (slowF p h os) none
def SlowAt (H : Hp) (v : V) : Option (Nat × Nat × Nat) → Prop
  | none => v = .non
  | some b => ∃ u, v = .ref u ∧ H u = some (.tup [.int b.1, .int b.2.1, .int b.2.2])
theorem SlowAt.keep {H H' : Hp} {v : V} {o : Option (Nat × Nat × Nat)} (k : TupKeep H H') (h : SlowAt H v o) : SlowAt H' v o := by
  cases o with
  | none => exact h
  | some b =>
    obtain ⟨u, e, hu⟩ := h
    exact ⟨u, e, k _ _ hu⟩
theorem stp_le0 {p h : Nat} {os : List Od} {st : Nat × Nat} (ok : NetOk p h os) : ∀ (i : Nat) {s : Nat × Nat}, stp p os i st = some s → st.2 ≤ s.2
  | 0, s, e => by
    cases e
    exact Nat.le_refl _
  | i + 1, s, e => by
    obtain ⟨c, hc, e2⟩ := Option.bind_eq_some_iff.mp (show (stp p os i st).bind (hop p os) = some s from e)
    have h1 := stp_le0 ok i hc
    have h2 := hop_more ok e2
    omega
theorem folR_last_le {p h : Nat} {os : List Od} {q : Nat × Nat} (ok : NetOk p h os) (hh : q.1 < h) : q.2 ≤ ((folR p h os q).1.getLastD q).2 := by
  have key : ∀ (l : List (Nat × Nat)), l ≠ [] → (∀ i, i < l.length → l[i]? = stp p os i q) → q.2 ≤ (l.getLastD q).2 := fun l ne hl => by
    have h1 : l[l.length - 1]? = some (l.getLastD q) := by
      rw [← List.getLast?_eq_getElem?, List.getLastD_eq_getLast?]
      cases e : l.getLast? with
      | none => exact absurd (List.getLast?_eq_none_iff.mp e) ne
      | some y => rfl
    have h0 : 0 < l.length := List.length_pos_iff.mpr ne
    rw [hl _ (by omega)] at h1
    exact stp_le0 ok _ h1
  rcases folR_cases ok hh with ⟨l, e, ne, hl, _⟩ | ⟨m, s, b, t, k, e, hl, _⟩
  · rw [e]
    exact key l ne fun i _ => hl i
  · rw [e]
    exact key (m ++ [s]) (by simp) fun i hi => hl i (by rw [List.length_append, List.length_singleton] at hi; omega)
def spSlow (C : Addr) : Sp := fun vs H Q _ => ∃ (x t : Addr) (p h : Nat) (os : List Od) (F : List Addr), vs = [.ref x] ∧ NetAt C H x p h os t F ∧ NetOk p h os ∧ ∀ H' v, Same H H' → SlowAt H' v (slowN p h os) → Q v H'
section
variable {P : Program} {w : World} {K : PySem.W.Frag} {mg : Str → Option Value} {base : Heap}
theorem ok_slowest {f C : Addr} {fd : FuncData} (F : Fun K "slowest" "slowest" s_slowest f fd) (DL : Df P w K mg base "letters" 2 P_letters (spLets C)) (DF : Df P w K mg base "follow" 7 P_follow (spFollow C)) : FnOk P w K mg base CX0 8 f fd P_slowest (spSlow C) := by
  obtain ⟨fL, fdL, gL, kL, bL, GL⟩ := DL
  obtain ⟨fF, fdF, gF, kF, bF, GF⟩ := DF
  refine F.ok sc_slowest (fun vs H Q E h => ?_) (fun cdv A outer s H vs Q E hr h => ?_)
  · obtain ⟨x, t, p, h, os, F, rfl, _⟩ := h
    rfl
  · obtain ⟨x, t, p, h, os, F, rfl, Nt, nok, q⟩ := h
    have hr1 : Room 2 _ := hr.mono (by decide)
    refine ⟨_, pss_cons (ps_set (i := 1) sc_slowest.nd rfl (.inl rfl) pe_non)
      (pss_cons (ps_for PassesOwn.never rfl (pi_list (pe_call GL hr1 (by rfl) gL kL bL .nil pass0 (pa_cons (pv 0) pa_nil))) (pg_tup (by rfl) (pgs_cons (pg_name (i := 2) sc_slowest.nd rfl (.inl rfl)) (pgs_cons (pg_name (i := 3) sc_slowest.nd rfl (.inl rfl)) pgs_nil)))
        (pss_cons (ps_asg (pe_call GF hr (by rfl) gF kF bF .nil pass0 (pa_cons (pv 0) (pa_cons (pv 2) (pa_cons (pv 3) pa_nil)))) (pg_tup (by rfl) (pgs_cons (pg_name (i := 4) sc_slowest.nd rfl (.inl rfl)) (pgs_cons (pg_name (i := 5) sc_slowest.nd rfl (.inl rfl)) pgs_nil))))
        (pss_cons (ps_set (i := 6) sc_slowest.nd rfl (.inl rfl) (pe_op op_sub (pe_ix ix_tup (pe_ix ix_list (pv 4) (pe_un un_neg pe_int) (fun _ _ => rfl)) pe_int (fun _ _ => rfl)) (pv 3)))
        (pss_one (ps_if (PW.pt (pw_and (pt_cmpR op_isN (pv 5) pe_non (nomark _)) (pw_and1 (PW.pt (pw_or (pt_cmpR op_isN (pv 1) pe_non (nomark _)) (pw_or1 (pt_cmpR op_gt (pv 6) (pe_ix ix_tup (pv 1) pe_int (fun _ _ => rfl)) (nomark _))))))))
          (pss_one (ps_set (i := 1) sc_slowest.nd rfl (.inl rfl) (pe_tup (pa_cons (pv 6) (pa_cons (pv 2) (pa_cons (pv 3) pa_nil)))))) pss_nil)))))
      (pss_one (ps_ret (pv 1)))), ?_⟩
    refine ⟨_, rfl, x, t, p, h, os, F, rfl, Nt, nok, fun H1 r ws s1 nr hr1 hws => ?_⟩
    have hlen := hws.length
    refine ⟨r, rfl, ⟨_, SqL.of hr1⟩, ?_⟩
    refine for_list (K := K) (a := r) (xs := ws) (fun i σ H' => (∃ v x2 x3 x4 x5 x6, σ = [some (.ref x), some v, x2, x3, x4, x5, x6] ∧ SlowAt H' v (((lets p h).take i).foldl (slowF p h os) none)) ∧ Same H1 H') ⟨⟨_, _, _, _, _, _, rfl, rfl⟩, .refl H1⟩ (fun i σ H' _ ⟨_, s'⟩ => SqL.of (s' _ _ hr1)) ?_ ?_
    · rintro i vi σ H2 hi ⟨⟨v, x2, x3, x4, x5, x6, rfl, hv⟩, s2⟩
      have lt : i < (lets p h).length := by rw [← hlen]; exact (List.getElem?_eq_some_iff.mp hi).1
      have ei := List.getElem?_eq_getElem lt
      obtain ⟨v', hv', hvs⟩ := Paired.get? (i := i) hws ei
      obtain rfl : v' = vi := Option.some.inj (hv'.symm.trans hi)
      have hmem := List.mem_of_getElem? ei
      have hstep : ((lets p h).take (i + 1)).foldl (slowF p h os) none = slowR (folR p h os (lets p h)[i]) (((lets p h).take i).foldl (slowF p h os) none) (lets p h)[i] := by
        rw [List.take_add_one, ei, List.foldl_append]
        rfl
      generalize (lets p h)[i] = qi at ei hvs hmem hstep
      generalize ((lets p h).take i).foldl (slowF p h os) none = acc at hv hstep
      obtain ⟨hq1, hq2⟩ := mem_lets.mp hmem
      obtain ⟨u0, rfl, hu0⟩ := hvs
      refine ⟨u0, _, rfl, SqT.of (s2 _ _ hu0), rfl, _, _, rfl, _, _, rfl, rfl, ?_⟩
      refine ⟨_, rfl, _, rfl, _, rfl, x, t, p, h, qi.1, qi.2, os, F, rfl, (Nt.same s1).same s2, nok, hq1, by have := nok.p30; omega, fun H3 r3 s3 ⟨sl, vs, _, hr3, nsl, hsl, hvs⟩ => ?_⟩
      refine ⟨r3, _, rfl, SqT.of hr3, rfl, _, _, rfl, _, _, rfl, rfl, ?_⟩
      have hne := folR_ne (p := p) (h := h) (os := os) (st := qi)
      have hle := folR_last_le nok hq1
      rw [hstep]
      generalize folR p h os qi = res at hr3 hvs hne hle
      obtain ⟨l, b⟩ := res
      obtain ⟨l', c, rfl⟩ : ∃ l' c, l = l' ++ [c] := ⟨l.dropLast, l.getLast hne, (List.dropLast_concat_getLast hne).symm⟩
      have elast : (l' ++ [c]).getLastD qi = c := by rw [List.getLastD_eq_getLast?, List.getLast?_concat]; rfl
      have hle' : qi.2 ≤ c.2 := by
        have : qi.2 ≤ ((l' ++ [c]).getLastD qi).2 := hle
        rw [elast] at this
        exact this
      obtain ⟨vs', vc, rfl, _, uc, rfl, huc⟩ := pair_split hvs
      refine ⟨_, rfl, 1, rfl, sl, _, -1, _, rfl, rfl, SqL.of hsl, atI_last _ _, uc, _, 1, _, rfl, rfl, SqT.of huc, atI_nat (j := 1) rfl, _, rfl, _, _, rfl, rfl, ?_⟩
      have edays : (c.2 : Int) - (qi.2 : Int) = ((c.2 - qi.2 : Nat) : Int) := by omega
      have s23 := s2.trans s3
      refine ⟨_, rfl, rfl, _, rfl, ?_⟩
      cases b with
      | some z =>
        exact iteF ⟨⟨_, _, _, _, _, _, rfl, hv.keep (tk_of s3)⟩, s23⟩
      | none =>
        refine iteT ⟨_, rfl, rfl, _, rfl, ?_⟩
        cases acc with
        | none =>
          obtain rfl : v = .non := hv
          refine iteT ⟨_, rfl, _, rfl, _, rfl, (by show 3 ≤ sizeLine; decide), fun u nu => ⟨⟨_, _, _, _, _, _, rfl, ?_⟩, s23.trans (same_upd nu)⟩⟩
          show SlowAt _ _ (some (((l' ++ [c]).getLastD qi).2 - qi.2, qi.1, qi.2))
          rw [elast]
          refine ⟨u, rfl, ?_⟩
          rw [upd_same]
          exact congrArg (fun z => some (HO.tup [V.int z, V.int qi.1, V.int qi.2])) edays
        | some b0 =>
          obtain ⟨ub, rfl, hub⟩ := hv
          refine iteF ⟨_, rfl, _, rfl, ub, _, 0, _, rfl, rfl, SqT.of (s3 _ _ hub), atI_nat (j := 0) rfl, _, _, rfl, rfl, _, rfl, ?_⟩
          rw [edays]
          refine ite2 (fun e => ?_) (fun e => ?_)
          · have e1 : b0.1 < c.2 - qi.2 := by
              have z := of_decide_eq_true e
              omega
            refine ⟨_, rfl, _, rfl, _, rfl, (by show 3 ≤ sizeLine; decide), fun u nu => ⟨⟨_, _, _, _, _, _, rfl, ?_⟩, s23.trans (same_upd nu)⟩⟩
            show SlowAt _ _ (if b0.1 < ((l' ++ [c]).getLastD qi).2 - qi.2 then some (((l' ++ [c]).getLastD qi).2 - qi.2, qi.1, qi.2) else some b0)
            rw [elast, if_pos e1]
            refine ⟨u, rfl, ?_⟩
            rw [upd_same]
            exact congrArg (fun z => some (HO.tup [V.int z, V.int qi.1, V.int qi.2])) edays
          · have e1 : ¬ b0.1 < c.2 - qi.2 := fun z => e (decide_eq_true (by omega))
            refine ⟨⟨_, _, _, _, _, _, rfl, ?_⟩, s23⟩
            show SlowAt _ _ (if b0.1 < ((l' ++ [c]).getLastD qi).2 - qi.2 then some (((l' ++ [c]).getLastD qi).2 - qi.2, qi.1, qi.2) else some b0)
            rw [elast, if_neg e1]
            exact ⟨ub, rfl, s3 _ _ hub⟩
    · rintro σ H2 ⟨⟨v, x2, x3, x4, x5, x6, rfl, hv⟩, s2⟩
      rw [hlen, List.take_of_length_le (Nat.le_refl _)] at hv
      exact ⟨_, rfl, q H2 v (s1.trans s2) hv⟩
end
/-! ### pairs as data: their order and their least -/
section
open PySem.W (alike alikeAll dataLt minD AlikeAll)
theorem plD_alike (s t : Nat × Nat) : alike (plD s) (plD t) = true := by
  simp [plD, alike, alikeAll]
theorem plDs_alike (l : List (Nat × Nat)) : AlikeAll (l.map plD) := by
  refine ⟨fun x hx y hy => ?_, fun x hx => ?_⟩
  · obtain ⟨s, _, rfl⟩ := List.mem_map.mp hx
    obtain ⟨t, _, rfl⟩ := List.mem_map.mp hy
    exact plD_alike s t
  · obtain ⟨s, _, rfl⟩ := List.mem_map.mp hx
    intro e
    cases e
theorem int_eqv (a b : Int) : PyData.eqv (.int a) (.int b) = decide (a = b) := by
  by_cases h : a = b <;> simp [PyData.eqv, h]
theorem dataLt_pl (s t : Nat × Nat) : dataLt (plD s) (plD t) = ltS s t := by
  unfold plD ltS
  rw [PySem.W.dataLt_tuple]
  by_cases e1 : s.1 = t.1
  · rw [if_pos e1, PySem.W.dataLt_all_yes (by simp [alike]) (by rw [int_eqv, e1]; exact decide_eq_true rfl)]
    by_cases e2 : s.2 = t.2
    · rw [PySem.W.dataLt_all_yes (by simp [alike]) (by rw [int_eqv, e2]; exact decide_eq_true rfl), e2, decide_eq_false (Nat.lt_irrefl _)]
      simp [PySem.W.keyToksAll, PyProof.Rows.lexLt]
      rfl
    · rw [PySem.W.dataLt_all_no (by simp [alike]) (by rw [int_eqv]; exact decide_eq_false (by omega)), PySem.W.dataLt_int]
      by_cases c : s.2 < t.2
      · rw [decide_eq_true c, decide_eq_true (by omega)]
      · rw [decide_eq_false c, decide_eq_false (by omega)]
  · rw [if_neg e1, PySem.W.dataLt_all_no (by simp [alike]) (by rw [int_eqv]; exact decide_eq_false (by omega)), PySem.W.dataLt_int]
    by_cases c : s.1 < t.1
    · rw [decide_eq_true c, decide_eq_true (by omega)]
    · rw [decide_eq_false c, decide_eq_false (by omega)]
theorem minD_pl : ∀ (xs : List (Nat × Nat)) (x : Nat × Nat), minD (plD x) (xs.map plD) = plD (minS x xs)
  | [], x => rfl
  | y :: ys, x => by
    show minD (if dataLt (plD y) (plD x) = true then plD y else plD x) (ys.map plD) = plD (minS (if ltS y x then y else x) ys)
    rw [dataLt_pl]
    by_cases c : ltS y x = true
    · rw [if_pos c, if_pos c]
      exact minD_pl ys y
    · rw [if_neg c, if_neg c]
      exact minD_pl ys x
theorem plD_inj {s t : Nat × Nat} (e : plD s = plD t) : s = t := by
  have h := plD_eqv s t
  rw [← e] at h
  rw [PySem.SeqAt.eqv_refl _ (PySem.SeqAt.canLay_of_shaped (plD_shaped s))] at h
  exact of_decide_eq_true h.symm
/-- min of a list of stops -/
theorem min_depth (x : Nat × Nat) (xs : List (Nat × Nat)) : PyData.depthAll (plD x :: xs.map plD) ≤ 60 := by
  have := plDs_depth (x :: xs)
  rw [List.map_cons] at this
  omega
theorem min_at {H : Hp} {ws : List V} {x : Nat × Nat} {xs : List (Nat × Nat)} {i : Nat} {v : V} (hw : Paired (StopAt H) ws (x :: xs)) (hi : ws[i]? = some v) (he : (plD x :: xs.map plD)[i]? = some (minD (plD x) (xs.map plD))) : StopAt H v (minS x xs) := by
  have hil : i < (x :: xs).length := by rw [← hw.length]; exact (List.getElem?_eq_some_iff.mp hi).1
  obtain ⟨v', hv', hs⟩ := Paired.get? (i := i) hw (List.getElem?_eq_getElem hil)
  obtain rfl : v' = v := Option.some.inj (hv'.symm.trans hi)
  have e2 : ((x :: xs).map plD)[i]? = some (plD (x :: xs)[i]) := by rw [List.getElem?_map, List.getElem?_eq_getElem hil]; rfl
  rw [List.map_cons, he, minD_pl] at e2
  rw [plD_inj (Option.some.inj e2)]
  exact hs
end
abbrev s_loops : Stmt := top 22
abbrev N_loops : List Str := ["net", "found", "house", "day", "stops", "back", "loop"]
abbrev P_loops : List Str := ["net"]
theorem sc_loops : FnScope N_loops P_loops (defScope s_loops) := ⟨rfl, rfl, rfl, by decide +kernel, rfl, by decide +kernel, by decide +kernel⟩
/-! ### the loops of a net -/
/-- a list of lists of stops -/
def LoopAt (H : Hp) (v : V) (l : List (Nat × Nat)) : Prop := ∃ u ws, v = .ref u ∧ H u = some (.lst ws) ∧ Paired (StopAt H) ws l
theorem LoopAt.same {H H' : Hp} {v : V} {l : List (Nat × Nat)} (s : Same H H') (h : LoopAt H v l) : LoopAt H' v l := by
  obtain ⟨u, ws, e, h1, h2⟩ := h
  exact ⟨u, ws, e, s _ _ h1, StopsAt.keep (tk_of s) h2⟩
/-- a new list of loops at r, each list of its own -/
structure LpsAt (H0 H : Hp) (r : Addr) (as : List Addr) (ls : List (List (Nat × Nat))) : Prop where
  r0 : H0 r = none
  at_ : H r = some (.lst (as.map V.ref))
  new : ∀ a ∈ as, H0 a = none
  ne : r ∉ as
  nd : as.Nodup
  loops : Paired (fun a l => LoopAt H (.ref a) l) as ls
def spLoops (C : Addr) : Sp := fun vs H Q _ => ∃ (x t : Addr) (p h : Nat) (os : List Od) (F : List Addr), vs = [.ref x] ∧ NetAt C H x p h os t F ∧ NetOk p h os ∧ ∀ H' r as, Same H H' → LpsAt H H' r as (loopsN p h os) → Q (.ref r) H'
theorem pair_mem {α β : Type} {F : α → β → Prop} {x : α} : ∀ {xs : List α} {l : List β}, Paired F xs l → x ∈ xs → ∃ y, y ∈ l ∧ F x y
  | _, _, .nil, h => by cases h
  | _, _, .cons r t, h => by
    rcases List.mem_cons.mp h with rfl | z
    · exact ⟨_, List.mem_cons_self, r⟩
    · obtain ⟨y, hy, q⟩ := pair_mem t z
      exact ⟨y, List.mem_cons_of_mem _ hy, q⟩
theorem fm_one {α β : Type} (f : α → Option β) (q : α) : List.filterMap f [q] = (f q).toList := by
  cases h : f q <;> simp [h]
theorem loops_step {p h i : Nat} {os : List Od} {q : Nat × Nat} (e : (lets p h)[i]? = some q) : ((lets p h).take (i + 1)).filterMap (goodL p h os) = ((lets p h).take i).filterMap (goodL p h os) ++ (goodL p h os q).toList := by
  rw [List.take_add_one, e, List.filterMap_append, Option.toList_some, fm_one]
/-- all but the last -/
theorem cut_last {xs : List V} {v : V} : cutV (xs ++ [v]) none (some (-1)) = xs := by
  unfold cutV
  rw [HT.sIx_none, show HT.sIx (xs ++ [v]).length (xs ++ [v]).length (some (-1)) = xs.length by
    rw [List.length_append, List.length_singleton]
    unfold HT.sIx
    simp only
    rw [if_pos (by decide)]
    omega]
  simp
theorem LpsAt.same {H0 H H' : Hp} {r : Addr} {as : List Addr} {ls : List (List (Nat × Nat))} (h : LpsAt H0 H r as ls) (s : Same H H') : LpsAt H0 H' r as ls :=
  ⟨h.r0, s _ _ h.at_, h.new, h.ne, h.nd, Paired.mapP h.loops fun _ _ z => z.same s⟩
theorem LpsAt.push {H0 H : Hp} {r d : Addr} {as : List Addr} {ls : List (List (Nat × Nat))} {ws : List V} {l : List (Nat × Nat)} (h : LpsAt H0 H r as ls) (nd : H0 d = none) (hd : H d = some (.lst ws)) (hw : Paired (StopAt H) ws l) (nda : ∀ a ∈ as, a ≠ d) (nrd : r ≠ d) : LpsAt H0 (L2.upd H r (.lst (as.map V.ref ++ [.ref d]))) r (as ++ [d]) (ls ++ [l]) := by
  have k := TupKeep.lst (o := HO.lst (as.map V.ref ++ [.ref d])) h.at_
  refine ⟨h.r0, by rw [upd_same, List.map_append]; rfl, fun a ha => ?_, fun hm => ?_, ?_, ?_⟩
  · rcases List.mem_append.mp ha with z | z
    · exact h.new a z
    · rw [List.mem_singleton.mp z]
      exact nd
  · rcases List.mem_append.mp hm with z | z
    · exact h.ne z
    · exact nrd (List.mem_singleton.mp z)
  · rw [List.nodup_append]
    refine ⟨h.nd, List.nodup_cons.mpr ⟨by simp, List.nodup_nil⟩, fun a ha b hb e => ?_⟩
    rw [List.mem_singleton.mp hb] at e
    exact nda a ha e
  · refine Paired.snoc ?_ ⟨d, ws, rfl, (upd_ne nrd.symm).trans hd, StopsAt.keep k hw⟩
    have hne := h.ne
    have hl := h.loops
    clear nda
    generalize ls = ls0 at hl
    revert hne hl
    generalize as.map V.ref ++ [V.ref d] = gg at k
    intro hne hl
    clear h
    induction hl with
    | nil => exact .nil
    | cons q _ ih =>
      obtain ⟨u, ws', e, h1, h2⟩ := q
      cases e
      exact .cons ⟨_, ws', rfl, (upd_ne fun z => hne (by rw [z]; exact List.mem_cons_self)).trans h1, StopsAt.keep k h2⟩ (ih fun z => hne (List.mem_cons_of_mem _ z))
section
variable {P : Program} {w : World} {K : PySem.W.Frag} {mg : Str → Option Value} {base : Heap}
theorem ok_loops {f C : Addr} {fd : FuncData} (F : Fun K "loops" "loops" s_loops f fd) (B : Blt mg) (zm : mg "min" = none) (DL : Df P w K mg base "letters" 2 P_letters (spLets C)) (DF : Df P w K mg base "follow" 7 P_follow (spFollow C)) (DD : Df P w K mg base "day_stops" 2 P_day_stops (spDst C)) : FnOk P w K mg base CX0 8 f fd P_loops (spLoops C) := by
  obtain ⟨fL, fdL, gL, kL, bL, GL⟩ := DL
  obtain ⟨fF, fdF, gF, kF, bF, GF⟩ := DF
  obtain ⟨fD, fdD, gD, kD, bD, GD⟩ := DD
  refine F.ok sc_loops (fun vs H Q E h => ?_) (fun cdv A outer s H vs Q E hr h => ?_)
  · obtain ⟨x, t, p, h, os, F, rfl, _⟩ := h
    rfl
  · obtain ⟨x, t, p, h, os, F, rfl, Nt, nok, q⟩ := h
    have hr1 : Room 2 _ := hr.mono (by decide)
    have hu : (A.deeper (PyProof.Rows.envOfC "loops" (defScope s_loops) s.heap.objs.size f cdv)).units + 65 < cLine := by
      have := hr.un
      omega
    have hu64 := Nat.lt_of_succ_lt hu
    refine ⟨_, pss_cons (ps_set (i := 1) sc_loops.nd rfl (.inl rfl) (pe_lst pa_nil))
      (pss_cons (ps_for PassesOwn.never rfl (pi_list (pe_call GL hr1 (by rfl) gL kL bL .nil pass0 (pa_cons (pv 0) pa_nil))) (pg_tup (by rfl) (pgs_cons (pg_name (i := 2) sc_loops.nd rfl (.inl rfl)) (pgs_cons (pg_name (i := 3) sc_loops.nd rfl (.inl rfl)) pgs_nil)))
        (pss_cons (ps_asg (pe_call GF hr (by rfl) gF kF bF .nil pass0 (pa_cons (pv 0) (pa_cons (pv 2) (pa_cons (pv 3) pa_nil)))) (pg_tup (by rfl) (pgs_cons (pg_name (i := 4) sc_loops.nd rfl (.inl rfl)) (pgs_cons (pg_name (i := 5) sc_loops.nd rfl (.inl rfl)) pgs_nil))))
        (pss_one (ps_if (pt_cmpR op_eq (pv 5) pe_int (nomark _))
          (pss_cons (ps_set (i := 6) sc_loops.nd rfl (.inl rfl) (pe_call GD hr1 (by rfl) gD kD bD .nil pass0 (pa_cons (pv 0) (pa_cons (pe_slice sl_list (pv 4) po_none (po_some (pe_un un_neg pe_int))) pa_nil))))
          (pss_one (ps_if (pt_cmpR (op_eqD hu64) (pe_ix ix_list (pv 6) pe_int (fun _ _ => rfl)) (pe_callB (cr_minD rfl hu) (by rfl) zm PyProof.Rows.boot_min (pa_cons (pv 6) pa_nil)) (nomark _))
            (pss_one (ps_expr (pe_bm PySem.F.plainAttrs_list PySem.F.slot_list_append PySem.F.type_list_append mt_append (pv 1) (pa_cons (pv 6) pa_nil)))) pss_nil))) pss_nil))))
      (pss_one (ps_ret (pv 1)))), ?_⟩
    have p30 := nok.p30; have h10 := nok.h10
    have big : h * p ≤ 300 := Nat.mul_le_mul h10 p30
    refine ⟨Nat.zero_le _, fun fo nfo => ?_⟩
    have sf := same_upd (o := HO.lst []) nfo
    refine ⟨_, rfl, x, t, p, h, os, F, rfl, Nt.same sf, nok, fun H1 r ws s1 nr hr1 hws => ?_⟩
    have hlen := hws.length
    have nfr : fo ≠ r := ne_of_none upd_same nr
    have nfF : fo ∉ F := Nt.new nfo
    have s01 := sf.trans s1
    refine ⟨r, rfl, ⟨_, SqL.of hr1⟩, ?_⟩
    refine for_list (K := K) (a := r) (xs := ws) (fun i σ H' => (∃ x2 x3 x4 x5 x6 as, σ = [some (.ref x), some (.ref fo), x2, x3, x4, x5, x6] ∧ LpsAt H H' fo as (((lets p h).take i).filterMap (goodL p h os))) ∧ Same H H' ∧ NetAt C H' x p h os t F ∧ H' r = some (.lst ws) ∧ Paired (StopAt H') ws (lets p h))
      ⟨⟨_, _, _, _, _, [], rfl, ⟨nfo, s1 _ _ upd_same, fun _ z => (by cases z), by simp, List.nodup_nil, .nil⟩⟩, s01, (Nt.same s01), hr1, hws⟩ (fun i σ H' _ ⟨_, _, _, h', _⟩ => SqL.of h') ?_ ?_
    · rintro i vi σ H2 hi ⟨⟨x2, x3, x4, x5, x6, as, rfl, L2⟩, s2, N2, hr2, hws2⟩
      have lt : i < (lets p h).length := by rw [← hlen]; exact (List.getElem?_eq_some_iff.mp hi).1
      have ei := List.getElem?_eq_getElem lt
      obtain ⟨v', hv', hvs⟩ := Paired.get? (i := i) hws2 ei
      obtain rfl : v' = vi := Option.some.inj (hv'.symm.trans hi)
      have hmem := List.mem_of_getElem? ei
      rw [loops_step ei]
      generalize (lets p h)[i] = qi at ei hvs hmem
      obtain ⟨hq1, hq2⟩ := mem_lets.mp hmem
      obtain ⟨u0, rfl, hu0⟩ := hvs
      refine ⟨u0, _, rfl, SqT.of hu0, rfl, _, _, rfl, _, _, rfl, rfl, ?_⟩
      refine ⟨_, rfl, _, rfl, _, rfl, x, t, p, h, qi.1, qi.2, os, F, rfl, N2, nok, hq1, by omega, fun H3 r3 s3 ⟨sl, vs, _, hr3, nsl, hsl, hvs⟩ => ?_⟩
      refine ⟨r3, _, rfl, SqT.of hr3, rfl, _, _, rfl, _, _, rfl, rfl, ?_⟩
      have hne := folR_ne (p := p) (h := h) (os := os) (st := qi)
      have hll := folR_len (p := p) (h := h) (os := os) (st := qi)
      have hlp : lpOf p h os qi = match (folR p h os qi).2 with | some 0 => some ((folR p h os qi).1.dropLast.map (plc p)) | _ => none := rfl
      have L3 := L2.same s3
      have ng : lpOf p h os qi = none → goodL p h os qi = none := fun e => by
        unfold goodL
        rw [e]
      refine ⟨_, rfl, ?_, _, rfl, ?_⟩
      · cases (folR p h os qi).2 <;> rfl
      refine ite2 (fun e => ?_) (fun e => ?_)
      · have e0 : (folR p h os qi).2 = some 0 := by
          have z := of_decide_eq_true e
          generalize (folR p h os qi).2 = o at z
          cases o with
          | none => cases z
          | some k =>
            have z2 := V.int.inj z
            have : k = 0 := by omega
            rw [this]
        rw [e0] at hlp
        have hlp2 : lpOf p h os qi = some ((folR p h os qi).1.dropLast.map (plc p)) := hlp
        obtain ⟨_, _, xs, exs⟩ := lp_cyc nok hq1 hlp2
        obtain ⟨l', c, el⟩ : ∃ l' c, (folR p h os qi).1 = l' ++ [c] := ⟨_, _, (List.dropLast_concat_getLast hne).symm⟩
        have hll' : l'.length ≤ h * p := by
          rw [el, List.length_append, List.length_singleton] at hll
          omega
        rw [el] at hvs hlp2 exs
        rw [List.dropLast_concat] at hlp2 exs
        obtain ⟨vs', vc, rfl, hvs', uc, rfl, huc⟩ := pair_split hvs
        -- stops[:-1]
        refine ⟨_, rfl, _, rfl, _, rfl, -1, rfl, sl, _, rfl, SqL.of hsl, fun cl ncl => ?_⟩
        rw [cut_last]
        have s4 := same_upd (o := HO.lst vs') ncl
        refine ⟨x, t, cl, p, h, os, F, vs', l', rfl, (N2.same s3).same s4, nok, upd_same, StopsAt.keep (tk_of s4) hvs', by omega, fun H5 dl us s5 ndl hdl hus => ?_⟩
        rw [exs] at hus
        have s45 := s4.trans s5
        have L5 := L3.same s45
        have N5 := (N2.same s3).same s45
        have s25 := s2.trans (s3.trans s45)
        have hlq : goodL p h os qi = if hm (plc p qi :: xs) = true then some (plc p qi :: xs) else none := by
          unfold goodL
          rw [hlp2, exs]
        have ndl2 : H dl = none := s2.free (s3.free (s4.free ndl))
        have hr5 := s3.trans s45 _ _ hr2
        have hws5 := StopsAt.keep (tk_of (s3.trans s45)) hws2
        have ndr : dl ≠ r := fun z => by
          have := s4.free ndl
          rw [z, (s3 _ _ hr2)] at this
          cases this
        have nda : ∀ a ∈ as, a ≠ dl := fun a ha z => by
          obtain ⟨l0, _, _, ws0, e1, e2, _⟩ := pair_mem L5.loops ha
          cases e1
          have h3 := s4.free ndl
          obtain ⟨l1, _, _, ws1, e3, e4, _⟩ := pair_mem L3.loops ha
          cases e3
          rw [z, h3] at e4
          cases e4
        have nfd : fo ≠ dl := fun z => by
          have h3 := s4.free ndl
          rw [← z, L3.at_] at h3
          cases h3
        cases us with
        | nil => cases hus
        | cons u us =>
          have hu0 := hus
          cases hu0 with
          | cons hu _ =>
            refine ⟨_, rfl, dl, _, 0, _, rfl, rfl, SqL.of hdl, atI_nat (j := 0) rfl, _, rfl, dl, _, _, _, rfl, SqL.of hdl, stops_dp hus, plDs_alike (_ :: _), min_depth _ _, fun mi v hmi hme => ?_⟩
            have hv := min_at hus hmi hme
            refine ⟨_, _, stop_dp hu, stop_dp hv, plD_shaped _, plD_shaped _, _, rfl, ?_⟩
            rw [plD_eqv]
            refine ite2 (fun e2 => ?_) (fun e2 => ?_)
            · have hmt : hm (plc p qi :: xs) = true := e2
              rw [hlq, if_pos hmt]
              have hfo := L5.at_
              refine ⟨_, rfl, .inl ⟨rfl, _, SqL.of hfo⟩, _, rfl, fo, _, _, rfl, rfl, hfo, ?_, ?_⟩
              · rw [List.length_map, L5.loops.length]
                exact small1000 (Nat.le_trans (List.length_filterMap_le _ _) (by rw [List.length_take, lets_len]; omega))
              · have k := TupKeep.lst (o := HO.lst (as.map V.ref ++ [.ref dl])) hfo
                refine ⟨⟨_, _, _, _, _, as ++ [dl], rfl, L5.push ndl2 hdl hus nda nfd⟩, fun b o e' => ?_, N5.but (d := fo) .upd k nfF, (upd_ne nfr.symm).trans hr5, StopsAt.keep k hws5⟩
                rw [upd_ne (ne_of_none e' nfo)]
                exact s25 _ _ e'
            · have hmf : ¬ hm (plc p qi :: xs) = true := e2
              rw [hlq, if_neg hmf, Option.toList_none, List.append_nil]
              exact ⟨⟨_, _, _, _, _, as, rfl, L5⟩, s25, N5, hr5, hws5⟩
      · have e0 : lpOf p h os qi = none := by
          rw [hlp]
          generalize (folR p h os qi).2 = o at e
          match o, e with
          | none, _ => rfl
          | some 0, e => exact absurd (decide_eq_true (by rfl)) e
          | some (n + 1), _ => rfl
        rw [ng e0, Option.toList_none, List.append_nil]
        exact ⟨⟨_, _, _, _, _, as, rfl, L3⟩, s2.trans s3, N2.same s3, s3 _ _ hr2, StopsAt.keep (tk_of s3) hws2⟩
    · rintro σ H2 ⟨⟨x2, x3, x4, x5, x6, as, rfl, L2⟩, s2, _⟩
      rw [hlen, List.take_of_length_le (Nat.le_refl _)] at L2
      exact ⟨_, rfl, q H2 fo as s2 L2⟩
end
/-! ### where letters are delivered: plain mathematics -/
def dst (p h : Nat) (os : List Od) (st : Nat × Nat) : Option (Nat × Nat) := destOf (folR p h os st)
theorem stp_none_add {p : Nat} {os : List Od} {i : Nat} {st : Nat × Nat} (e : stp p os i st = none) (k : Nat) : stp p os (i + k) st = none := by
  rw [stp_add, e]
  rfl
theorem stp_succ_none {p : Nat} {os : List Od} {j : Nat} {st c : Nat × Nat} (h1 : stp p os j st = some c) (h2 : hop p os c = none) : stp p os (j + 1) st = none := by
  show (stp p os j st).bind (hop p os) = none
  rw [h1]
  exact h2
theorem dst_iff {p h : Nat} {os : List Od} {st c : Nat × Nat} (ok : NetOk p h os) (hh : st.1 < h) : dst p h os st = some c ↔ ∃ j, stp p os j st = some c ∧ hop p os c = none := by
  unfold dst
  rcases folR_cases ok hh with ⟨l, e, hne, hl, _⟩ | ⟨m, s, b, t, k, e, hl, hb, hs, hk, _⟩
  · rw [e]
    show l.getLast? = some c ↔ _
    have hlen : 0 < l.length := List.length_pos_iff.mpr hne
    have hend : stp p os l.length st = none := by
      rw [← hl]
      exact List.getElem?_eq_none_iff.mpr (Nat.le_refl _)
    have hlast : l.getLast? = stp p os (l.length - 1) st := by rw [← hl, List.getLast?_eq_getElem?]
    rw [hlast]
    constructor
    · intro h1
      refine ⟨_, h1, ?_⟩
      have e2 : (stp p os (l.length - 1) st).bind (hop p os) = none := by
        have e1 : stp p os (l.length - 1 + 1) st = none := by rw [Nat.sub_add_cancel hlen]; exact hend
        exact e1
      rw [h1] at e2
      exact e2
    · rintro ⟨j, h1, h2⟩
      have e3 := stp_succ_none h1 h2
      have hj : j < l.length := by
        rcases Nat.lt_or_ge j l.length with z | z
        · exact z
        · have := stp_none_add hend (j - l.length)
          rw [show l.length + (j - l.length) = j by omega, h1] at this
          cases this
      have hj2 : ¬ j + 1 < l.length := fun z => by
        have := hl (j + 1)
        rw [e3, List.getElem?_eq_getElem z] at this
        cases this
      rw [show l.length - 1 = j by omega]
      exact h1
  · rw [e]
    show (none : Option (Nat × Nat)) = some c ↔ _
    constructor
    · intro z
      cases z
    · rintro ⟨j, h1, h2⟩
      exfalso
      have hbl : b < m.length := (List.getElem?_eq_some_iff.mp hb).1
      have g1 : stp p os b st = some t := by
        rw [← hl b (Nat.le_of_lt hbl), List.getElem?_append_left hbl]
        exact hb
      have g2 : stp p os (b + (m.length - b)) st = some (shf (p * k) t) := by
        rw [show b + (m.length - b) = m.length by omega, ← hl _ (Nat.le_refl _), List.getElem?_append_right (Nat.le_refl _), Nat.sub_self, hs]
        rfl
      have hr := stp_round (N := m.length - b) (k0 := k) rfl g1 g2 (j + 1) 0
      have n1 : 1 ≤ m.length - b := by omega
      have n2 : 1 * (j + 1) ≤ (m.length - b) * (j + 1) := Nat.mul_le_mul_right _ n1
      have e3 := stp_none_add (stp_succ_none h1 h2) (b + 0 + (m.length - b) * (j + 1) - (j + 1))
      rw [show j + 1 + (b + 0 + (m.length - b) * (j + 1) - (j + 1)) = b + 0 + (m.length - b) * (j + 1) by omega, hr, show stp p os (b + 0) st = some t from g1] at e3
      cases e3
theorem dst_end {p h : Nat} {os : List Od} {st : Nat × Nat} (ok : NetOk p h os) (hh : st.1 < h) (e : hop p os st = none) : dst p h os st = some st := (dst_iff ok hh).mpr ⟨0, rfl, e⟩
theorem dst_stp {p h : Nat} {os : List Od} {st s : Nat × Nat} {i : Nat} (ok : NetOk p h os) (hh : st.1 < h) (e : stp p os i st = some s) : dst p h os st = dst p h os s := by
  have hs := pst_house ok hh i e
  apply Option.ext
  intro c
  rw [dst_iff ok hh, dst_iff ok hs]
  constructor
  · rintro ⟨j, h1, h2⟩
    by_cases z : i ≤ j
    · refine ⟨j - i, ?_, h2⟩
      rw [show j = i + (j - i) by omega, stp_add, e] at h1
      exact h1
    · have e3 := stp_none_add (stp_succ_none h1 h2) (i - (j + 1))
      rw [show j + 1 + (i - (j + 1)) = i by omega, e] at e3
      cases e3
  · rintro ⟨j, h1, h2⟩
    refine ⟨i + j, ?_, h2⟩
    rw [stp_add, e]
    exact h1
theorem hop_shf_none {p : Nat} {os : List Od} {k : Nat} {s : Nat × Nat} : hop p os (shf (p * k) s) = none ↔ hop p os s = none := by
  rw [hop_shf, Option.map_eq_none_iff]
theorem dst_shf {p h : Nat} {os : List Od} {st : Nat × Nat} {k : Nat} (ok : NetOk p h os) (hh : st.1 < h) : dst p h os (shf (p * k) st) = (dst p h os st).map (shf (p * k)) := by
  apply Option.ext
  intro c
  rw [dst_iff ok (show (shf (p * k) st).1 < h from hh), Option.map_eq_some_iff]
  constructor
  · rintro ⟨j, h1, h2⟩
    rw [stp_shf] at h1
    obtain ⟨c', h3, rfl⟩ := Option.map_eq_some_iff.mp h1
    exact ⟨c', (dst_iff ok hh).mpr ⟨j, h3, hop_shf_none.mp h2⟩, rfl⟩
  · rintro ⟨c', h1, rfl⟩
    obtain ⟨j, h3, h4⟩ := (dst_iff ok hh).mp h1
    exact ⟨j, by rw [stp_shf, h3]; rfl, hop_shf_none.mpr h4⟩
theorem dst_cycle {p h : Nat} {os : List Od} {st : Nat × Nat} {i k : Nat} (ok : NetOk p h os) (hh : st.1 < h) (e : stp p os i st = some (shf (p * k) st)) (hk : 0 < p * k) : dst p h os st = none := by
  have h1 := dst_stp ok hh e
  rw [dst_shf ok hh] at h1
  cases q : dst p h os st with
  | none => rfl
  | some c =>
    rw [q] at h1
    have h2 : c.2 = c.2 + p * k := congrArg Prod.snd (Option.some.inj h1)
    omega
theorem dst_le {p h : Nat} {os : List Od} {st c : Nat × Nat} (ok : NetOk p h os) (hh : st.1 < h) (e : dst p h os st = some c) : st.2 ≤ c.2 := by
  obtain ⟨j, h1, _⟩ := (dst_iff ok hh).mp e
  cases j with
  | zero =>
    cases h1
    exact Nat.le_refl _
  | succ j => exact Nat.le_of_lt (stp_more (i := 0) (k := j) ok rfl (by rw [Nat.zero_add]; exact h1))
theorem dst_house {p h : Nat} {os : List Od} {st c : Nat × Nat} (ok : NetOk p h os) (hh : st.1 < h) (e : dst p h os st = some c) : c.1 < h := by
  obtain ⟨j, h1, _⟩ := (dst_iff ok hh).mp e
  exact pst_house ok hh j h1
theorem dst_plc {p h : Nat} {os : List Od} {st : Nat × Nat} (ok : NetOk p h os) (hh : st.1 < h) : dst p h os st = (dst p h os (plc p st)).map (shf (p * (st.2 / p))) := by
  rw [← dst_shf ok (show (plc p st).1 < h from hh), ← shf_plc]
/-- the goal of a letter, and how many days it takes -/
def wayOf (p h : Nat) (os : List Od) (s : Nat × Nat) : Option (Nat × Nat) := (dst p h os s).map fun g => (g.1, g.2 - s.2)
theorem wayOf_dst {p h : Nat} {os : List Od} {s : Nat × Nat} (ok : NetOk p h os) (hh : s.1 < h) : dst p h os s = (wayOf p h os s).map fun g => (g.1, s.2 + g.2) := by
  unfold wayOf
  rw [Option.map_map]
  cases q : dst p h os s with
  | none => rfl
  | some c =>
    have := dst_le ok hh q
    show some c = some (c.1, s.2 + (c.2 - s.2))
    rw [show s.2 + (c.2 - s.2) = c.2 by omega]
theorem wayOf_plc {p h : Nat} {os : List Od} {s : Nat × Nat} (ok : NetOk p h os) (hh : s.1 < h) : wayOf p h os (plc p s) = wayOf p h os s := by
  unfold wayOf
  rw [dst_plc ok hh, Option.map_map]
  cases q : dst p h os (plc p s) with
  | none => rfl
  | some c =>
    show some (c.1, c.2 - s.2 % p) = some (c.1, c.2 + p * (s.2 / p) - s.2)
    have := Nat.div_add_mod s.2 p
    rw [show c.2 + p * (s.2 / p) - s.2 = c.2 - s.2 % p by omega]
theorem dst_way {p h : Nat} {os : List Od} {s : Nat × Nat} (ok : NetOk p h os) (hh : s.1 < h) : dst p h os s = (wayOf p h os (plc p s)).map fun g => (g.1, s.2 + g.2) := by
  rw [wayOf_plc ok hh]
  exact wayOf_dst ok hh
/-- the table of ways: keys and values -/
def wkv (p : Nat) (ks : List (Nat × Nat)) (f : Nat × Nat → V) : List (List Key × V) := ks.map fun s => (keyOf p s, f s)
def setF (f : Nat × Nat → V) (q : Nat × Nat) (v : V) : Nat × Nat → V := fun s => if s = q then v else f s
theorem key_plc {p : Nat} {s : Nat × Nat} : keyOf p (plc p s) = keyOf p s := keyOf_eq.mpr (plc_plc s)
theorem key_at {p : Nat} {q s : Nat × Nat} (hq : plc p q = q) : keyOf p q = keyOf p s ↔ q = plc p s := by
  rw [keyOf_eq, hq]
theorem wkv_val {p : Nat} {f : Nat × Nat → V} {s : Nat × Nat} : ∀ {ks : List (Nat × Nat)}, (∀ q ∈ ks, plc p q = q) → valV (wkv p ks f) (keyOf p s) = if plc p s ∈ ks then some (f (plc p s)) else none
  | [], _ => rfl
  | q :: ks, h => by
    have hq := h q List.mem_cons_self
    have ih := wkv_val (p := p) (f := f) (s := s) fun r hr => h r (List.mem_cons_of_mem _ hr)
    by_cases c : q = plc p s
    · rw [if_pos (by rw [c]; exact List.mem_cons_self)]
      show valV ((keyOf p q, f q) :: wkv p ks f) (keyOf p s) = _
      rw [valV_pos ((key_at hq).mpr c), c]
    · show valV ((keyOf p q, f q) :: wkv p ks f) (keyOf p s) = _
      rw [valV_neg fun z => c ((key_at hq).mp z), ih]
      by_cases m : plc p s ∈ ks
      · rw [if_pos m, if_pos (List.mem_cons_of_mem _ m)]
      · rw [if_neg m, if_neg fun z => (List.mem_cons.mp z).elim (fun e => c e.symm) m]
theorem wkv_ext {p : Nat} {f g : Nat × Nat → V} {ks : List (Nat × Nat)} (h : ∀ q ∈ ks, f q = g q) : wkv p ks f = wkv p ks g := by
  unfold wkv
  exact List.map_congr_left fun q hq => by rw [h q hq]
theorem wkv_new {p : Nat} {f : Nat × Nat → V} {s : Nat × Nat} {v : V} {ks : List (Nat × Nat)} (h : ∀ q ∈ ks, plc p q = q) (hn : plc p s ∉ ks) : putK (wkv p ks f) (keyOf p s) v = wkv p (ks ++ [plc p s]) (setF f (plc p s) v) := by
  rw [Cp.putK_new (by rw [wkv_val h, if_neg hn])]
  show _ = wkv p (ks ++ [plc p s]) _
  unfold wkv
  rw [List.map_append]
  congr 1
  · exact List.map_congr_left fun q hq => by
      show (keyOf p q, f q) = (keyOf p q, if q = plc p s then v else f q)
      rw [if_neg fun e : q = plc p s => hn (e ▸ hq)]
  · show [(keyOf p s, v)] = [(keyOf p (plc p s), setF f (plc p s) v (plc p s))]
    unfold setF
    rw [if_pos rfl, key_plc]
theorem wkv_old {p : Nat} {f : Nat × Nat → V} {s : Nat × Nat} {v : V} {ks : List (Nat × Nat)} (h : ∀ q ∈ ks, plc p q = q) (hn : plc p s ∈ ks) : putK (wkv p ks f) (keyOf p s) v = wkv p ks (setF f (plc p s) v) := by
  unfold putK
  have e : ((wkv p ks f).any fun kv => decide (kv.1 = keyOf p s)) = true := by
    rw [valV_any, wkv_val h, if_pos hn]
    rfl
  rw [if_pos e]
  unfold wkv
  rw [List.map_map]
  refine List.map_congr_left fun q hq => ?_
  show (if keyOf p q = keyOf p s then (keyOf p q, v) else (keyOf p q, f q)) = (keyOf p q, setF f (plc p s) v q)
  unfold setF
  by_cases c : q = plc p s
  · rw [if_pos ((key_at (h q hq)).mpr c), if_pos c]
  · rw [if_neg fun z => c ((key_at (h q hq)).mp z), if_neg c]
abbrev s_add_ways : Stmt := top 26
abbrev N_add_ways : List Str := ["net", "house", "day", "ways", "trail", "stop", "goal", "arrival", "known", "source", "start"]
abbrev P_add_ways : List Str := ["net", "house", "day", "ways"]
theorem sc_add_ways : FnScope N_add_ways P_add_ways (defScope s_add_ways) := ⟨rfl, rfl, rfl, by decide +kernel, rfl, by decide +kernel, by decide +kernel⟩
abbrev s_find_ways : Stmt := top 25
abbrev N_find_ways : List Str := ["net", "ways", "house", "day"]
abbrev P_find_ways : List Str := ["net"]
theorem sc_find_ways : FnScope N_find_ways P_find_ways (defScope s_find_ways) := ⟨rfl, rfl, rfl, by decide +kernel, rfl, by decide +kernel, by decide +kernel⟩
/-! ### the table of ways -/
structure WaysAt (p h : Nat) (os : List Od) (H : Hp) (d : Addr) (ks : List (Nat × Nat)) (f : Nat × Nat → V) : Prop where
  tab : H d = some (.dT (wkv p ks f))
  nd : ks.Nodup
  ok : ∀ q ∈ ks, q.1 < h ∧ q.2 < p
  ways : ∀ q ∈ ks, OptStop H (f q) (wayOf p h os q)
theorem plc_lt {p : Nat} {q : Nat × Nat} (h : q.2 < p) : plc p q = q := Prod.ext rfl (Nat.mod_eq_of_lt h)
theorem WaysAt.same {p h : Nat} {os : List Od} {H H' : Hp} {d : Addr} {ks : List (Nat × Nat)} {f : Nat × Nat → V} (W : WaysAt p h os H d ks f) (s : Same H H') : WaysAt p h os H' d ks f :=
  ⟨s _ _ W.tab, W.nd, W.ok, fun q hq => (W.ways q hq).keep (tk_of s)⟩
theorem But.tkd {d : Addr} {H H' : Hp} {kvs : List (List Key × V)} (b : But d H H') (hd : H d = some (.dT kvs)) : TupKeep H H' := fun c xs e => b c _ (ne_of e hd (by intro z; cases z)) e
def spAddWays (C : Addr) : Sp := fun vs H Q _ => ∃ (x t d : Addr) (p h hs dy : Nat) (os : List Od) (F : List Addr) (ks : List (Nat × Nat)) (f : Nat × Nat → V), vs = [.ref x, .int hs, .int dy, .ref d] ∧ NetAt C H x p h os t F ∧ NetOk p h os ∧ hs < h ∧ dy < p ∧ d ∉ F ∧
  WaysAt p h os H d ks f ∧ ∀ H' ks' f', But d H H' → WaysAt p h os H' d ks' f' → (∀ q ∈ ks, q ∈ ks') → (hs, dy) ∈ ks' → Q .non H'
/-- the state amid the trail: its stops are the first of the letter's -/
structure TrailAt (p h : Nat) (os : List Od) (H H' : Hp) (d tl : Addr) (st : Nat × Nat) (ks l : List (Nat × Nat)) (ts : List V) (f : Nat × Nat → V) : Prop where
  but : But d H H'
  stp : ∀ j, j < l.length → l[j]? = stp p os j st
  trail : H' tl = some (.lst ts)
  stops : Paired (StopAt H') ts l
  tab : H' d = some (.dT (wkv p (ks ++ l.map (plc p)) f))
  nd : (ks ++ l.map (plc p)).Nodup
  ok : ∀ q ∈ ks, q.1 < h ∧ q.2 < p
  ways : ∀ q ∈ ks, OptStop H' (f q) (wayOf p h os q)
  non : ∀ q ∈ l.map (plc p), f q = .non
section
variable {p h : Nat} {os : List Od} {H H' H2 : Hp} {d tl : Addr} {st : Nat × Nat} {ks l : List (Nat × Nat)} {ts : List V} {f : Nat × Nat → V}
theorem TrailAt.same (T : TrailAt p h os H H' d tl st ks l ts f) (s : Same H' H2) : TrailAt p h os H H2 d tl st ks l ts f :=
  { T with but := T.but.trans (.of s), trail := s _ _ T.trail, stops := StopsAt.keep (tk_of s) T.stops, tab := s _ _ T.tab, ways := fun q hq => (T.ways q hq).keep (tk_of s) }
theorem TrailAt.house (T : TrailAt p h os H H' d tl st ks l ts f) (nok : NetOk p h os) (hh : st.1 < h) : ∀ s ∈ l, s.1 < h := fun s hs => by
  obtain ⟨j, hj⟩ := List.getElem?_of_mem hs
  have lt := (List.getElem?_eq_some_iff.mp hj).1
  exact pst_house nok hh j ((T.stp j lt).symm.trans hj)
theorem TrailAt.len (T : TrailAt p h os H H' d tl st ks l ts f) (nok : NetOk p h os) (hh : st.1 < h) : l.length ≤ h * p :=
  places_bound nok.p1 (T.house nok hh) (List.nodup_append.mp T.nd).2.1
theorem TrailAt.plcs (T : TrailAt p h os H H' d tl st ks l ts f) : ∀ q ∈ ks ++ l.map (plc p), plc p q = q := fun q hq => by
  rcases List.mem_append.mp hq with z | z
  · exact plc_lt (T.ok q z).2
  · obtain ⟨s, _, rfl⟩ := List.mem_map.mp z
    exact plc_plc s
theorem TrailAt.oks (T : TrailAt p h os H H' d tl st ks l ts f) (nok : NetOk p h os) (hh : st.1 < h) : ∀ q ∈ ks ++ l.map (plc p), q.1 < h ∧ q.2 < p := fun q hq => by
  rcases List.mem_append.mp hq with z | z
  · exact T.ok q z
  · obtain ⟨s, hs, rfl⟩ := List.mem_map.mp z
    exact ⟨T.house nok hh s hs, Nat.mod_lt _ nok.p1⟩
theorem TrailAt.keys (T : TrailAt p h os H H' d tl st ks l ts f) (nok : NetOk p h os) (hh : st.1 < h) : (ks ++ l.map (plc p)).length ≤ h * p := by
  have e : (ks ++ l.map (plc p)).map (plc p) = ks ++ l.map (plc p) := by
    rw [List.map_congr_left (g := id) fun q hq => T.plcs q hq, List.map_id]
  exact places_bound nok.p1 (fun s hs => (T.oks nok hh s hs).1) (by rw [e]; exact T.nd)
/-- a stop of the trail is where the letter comes to: so is its end -/
theorem TrailAt.dst (T : TrailAt p h os H H' d tl st ks l ts f) (nok : NetOk p h os) (hh : st.1 < h) {s : Nat × Nat} (hs : s ∈ l) : Cp.dst p h os st = Cp.dst p h os s := by
  obtain ⟨j, hj⟩ := List.getElem?_of_mem hs
  have lt := (List.getElem?_eq_some_iff.mp hj).1
  exact dst_stp nok hh ((T.stp j lt).symm.trans hj)
/-- all that the trail holds chases: the table is right as it is -/
theorem TrailAt.done (T : TrailAt p h os H H' d tl st ks l ts f) (nok : NetOk p h os) (hh : st.1 < h) (e : Cp.dst p h os st = none) : WaysAt p h os H' d (ks ++ l.map (plc p)) f :=
  ⟨T.tab, T.nd, T.oks nok hh, fun q hq => by
    rcases List.mem_append.mp hq with z | z
    · exact T.ways q z
    · rw [T.non q z]
      obtain ⟨s, hs, rfl⟩ := List.mem_map.mp z
      rw [wayOf_plc nok (T.house nok hh s hs)]
      unfold wayOf
      rw [← T.dst nok hh hs, e]
      exact rfl⟩
/-- one stop more -/
theorem TrailAt.more (T : TrailAt p h os H H' d tl st ks l ts f) {c : Nat × Nat} {u : Addr} {xs : List V} (hc : Cp.stp p os l.length st = some c) (hn : plc p c ∉ ks ++ l.map (plc p)) (hu : H' u = some (.tup xs)) (hs : StopAt H' (.ref u) c) (nd : tl ≠ d) (n0 : H tl = none) :
    TrailAt p h os H (upd (upd H' d (.dT (wkv p (ks ++ (l ++ [c]).map (plc p)) (setF f (plc p c) .non)))) tl (.lst (ts ++ [.ref u]))) d tl st ks (l ++ [c]) (ts ++ [.ref u]) (setF f (plc p c) .non) := by
  have k1 : TupKeep H' (upd H' d (.dT (wkv p (ks ++ (l ++ [c]).map (plc p)) (setF f (plc p c) .non)))) := fun b ys e => by
    rw [upd_ne (ne_of e T.tab (by intro z; cases z))]
    exact e
  have htl : (upd H' d (.dT (wkv p (ks ++ (l ++ [c]).map (plc p)) (setF f (plc p c) .non)))) tl = some (.lst ts) := by
    rw [upd_ne nd]
    exact T.trail
  have k2 := k1.trans (TupKeep.lst (o := HO.lst (ts ++ [.ref u])) htl)
  refine ⟨fun b o nb e => ?_, fun j hj => ?_, upd_same, ?_, ?_, ?_, T.ok, fun q hq => ?_, fun q hq => ?_⟩
  · have n2 : b ≠ tl := fun z => by
      rw [z, n0] at e
      cases e
    rw [upd_ne n2, upd_ne nb]
    exact T.but b o nb e
  · rw [List.length_append, List.length_singleton] at hj
    by_cases z : j < l.length
    · rw [List.getElem?_append_left z]
      exact T.stp j z
    · obtain rfl : j = l.length := by omega
      rw [List.getElem?_append_right (Nat.le_refl _), Nat.sub_self, hc]
      rfl
  · exact Paired.snoc (StopsAt.keep k2 T.stops) (hs.keep k2)
  · rw [upd_ne nd.symm, upd_same]
  · rw [List.map_append, ← List.append_assoc, List.nodup_append]
    refine ⟨T.nd, by simp, fun a ha b hb => ?_⟩
    rw [List.map_cons, List.map_nil, List.mem_singleton] at hb
    rw [hb]
    intro e
    exact hn (e ▸ ha)
  · have e : setF f (plc p c) .non q = f q := by
      show (if q = plc p c then _ else _) = _
      rw [if_neg fun z : q = plc p c => hn (z ▸ List.mem_append_left _ hq)]
    rw [e]
    exact (T.ways q hq).keep k2
  · show (if q = plc p c then _ else _) = _
    by_cases z : q = plc p c
    · rw [if_pos z]
    · rw [if_neg z]
      rw [List.map_append] at hq
      rcases List.mem_append.mp hq with y | y
      · exact T.non q y
      · rw [List.map_cons, List.map_nil, List.mem_singleton] at y
        exact absurd y z
end
section
variable {P : Program} {w : World} {K : PySem.W.Frag} {mg : Str → Option Value} {base : Heap}
/-- ways of the trail set one by one -/
structure EndAt (p h : Nat) (os : List Od) (H H' : Hp) (d tl : Addr) (K : List (Nat × Nat)) (l : List (Nat × Nat)) (ts : List V) (j : Nat) (f : Nat × Nat → V) : Prop where
  but : But d H H'
  trail : H' tl = some (.lst ts)
  stops : Paired (StopAt H') ts l
  tab : H' d = some (.dT (wkv p K f))
  ways : ∀ q ∈ K, q ∉ (l.drop j).map (plc p) → OptStop H' (f q) (wayOf p h os q)
theorem ok_add_ways {f C fS : Addr} {fd fdS : FuncData} (F : Fun K "add_ways" "add_ways" s_add_ways f fd) (T : NetT K C) (GS : FnOk P w K mg base CX0 2 fS fdS P_Net_stop_after (spStop C)) (mS : Meth K C "stop_after" fS) (bS : Binds K fdS P_Net_stop_after []) :
    FnOk P w K mg base CX0 3 f fd P_add_ways (spAddWays C) := by
  refine F.ok sc_add_ways (fun vs H Q E h => ?_) (fun cdv A outer s H vs Q E hr h => ?_)
  · obtain ⟨x, t, d, p, h, hs, dy, os, F, ks, f, rfl, _⟩ := h
    rfl
  · obtain ⟨x, t, d, p, h, hs, dy, os, F, ks, f0, rfl, Nt, nok, hh, hdy, ndF, W0, q⟩ := h
    have hu : (A.deeper (PyProof.Rows.envOfC "add_ways" (defScope s_add_ways) s.heap.objs.size f cdv)).units + 1 < cLine := hu_of hr
    have hr1 : Room 2 _ := hr.mono (by decide)
    refine ⟨_, pss_cons (ps_set (i := 4) sc_add_ways.nd rfl (.inl rfl) (pe_lst pa_nil))
      (pss_cons (ps_set (i := 5) sc_add_ways.nd rfl (.inl rfl) (pe_tup (pa_cons (pv 1) (pa_cons (pv 2) pa_nil))))
      (C8.pss_cut (ps_while PassesOwn.never (PW.pt (pw_and (pt_cmpR op_notN (pv 5) pe_non (nomark _)) (pw_and1 (pt_cmp (pc_dnotin hu (pe_tup (pa_cons (pe_ix ix_tup (pv 5) pe_int (fun _ _ => rfl)) (pa_cons (pe_op op_modN (pe_ix ix_tup (pv 5) pe_int (fun _ _ => rfl)) (pe_fld (pv 0) rfl)) pa_nil))) (pv 3))))))
        (pss_cons (ps_dput hu (pv 3) (pe_tup (pa_cons (pe_ix ix_tup (pv 5) pe_int (fun _ _ => rfl)) (pa_cons (pe_op op_modN (pe_ix ix_tup (pv 5) pe_int (fun _ _ => rfl)) (pe_fld (pv 0) rfl)) pa_nil))) pe_non (by rfl))
        (pss_cons (ps_expr (pe_bm PySem.F.plainAttrs_list PySem.F.slot_list_append PySem.F.type_list_append mt_append (pv 4) (pa_cons (pv 5) pa_nil)))
        (pss_one (ps_set (i := 5) sc_add_ways.nd rfl (.inl rfl) (pe_meth (pv 0) T.cl mS GS hr1 bS .nil pass0 (pa_cons (pe_ix ix_tup (pv 5) pe_int (fun _ _ => rfl)) (pa_cons (pe_ix ix_tup (pv 5) pe_int (fun _ _ => rfl)) pa_nil))))))))
      (C8.pss_cut (ps_if (pt_cmpR op_isN (pv 5) pe_non (nomark _))
          (pss_one (ps_asg (pe_ix ix_list (pv 4) (pe_un un_neg pe_int) (fun _ _ => rfl)) (pg_tup (by rfl) (pgs_cons (pg_name (i := 6) sc_add_ways.nd rfl (.inl rfl)) (pgs_cons (pg_name (i := 7) sc_add_ways.nd rfl (.inl rfl)) pgs_nil)))))
          (pss_cons (ps_set (i := 8) sc_add_ways.nd rfl (.inl rfl) (pe_dget hu (pv 3) (pe_tup (pa_cons (pe_ix ix_tup (pv 5) pe_int (fun _ _ => rfl)) (pa_cons (pe_op op_modN (pe_ix ix_tup (pv 5) pe_int (fun _ _ => rfl)) (pe_fld (pv 0) rfl)) pa_nil))) (fun _ _ => rfl)))
          (pss_cons (ps_if (pt_cmpR op_isN (pv 8) pe_non (nomark _)) (pss_one ps_retN) pss_nil)
          (pss_one (ps_par (by rfl) sc_add_ways.nd (i := 6) (j := 7) rfl rfl (by decide) rfl rfl (pa_cons (pe_ix ix_tup (pv 8) pe_int (fun _ _ => rfl)) (pa_cons (pe_op op_add (pe_ix ix_tup (pv 5) pe_int (fun _ _ => rfl)) (pe_ix ix_tup (pv 8) pe_int (fun _ _ => rfl))) pa_nil)) (by rfl))))))
      (pss_one (ps_for PassesOwn.never rfl (pi_list (pv 4)) (pg_tup (by rfl) (pgs_cons (pg_name (i := 9) sc_add_ways.nd rfl (.inl rfl)) (pgs_cons (pg_name (i := 10) sc_add_ways.nd rfl (.inl rfl)) pgs_nil)))
        (pss_one (ps_dput hu (pv 3) (pe_tup (pa_cons (pv 9) (pa_cons (pe_op op_modN (pv 10) (pe_fld (pv 0) rfl)) pa_nil))) (pe_tup (pa_cons (pv 6) (pa_cons (pe_op op_sub (pv 7) (pv 10)) pa_nil))) (by rfl)))))))), ?_⟩
    have hp : 0 < p := nok.p1
    have p30 := nok.p30; have h10 := nok.h10
    have big : h * p ≤ 300 := Nat.mul_le_mul h10 p30
    refine ⟨Nat.zero_le _, fun tl ntl => ?_⟩
    refine ⟨_, rfl, _, rfl, (by show 2 ≤ sizeLine; decide), fun u0 nu0 => ?_⟩
    have s1 := same_upd (o := HO.lst []) ntl
    have s2 := same_upd (o := HO.tup [.int hs, .int dy]) nu0
    have s12 := s1.trans s2
    have ntd : tl ≠ d := (ne_of_none W0.tab ntl).symm
    have htl0 : (upd (upd H tl (.lst [])) u0 (.tup [.int hs, .int dy])) tl = some (.lst []) := s2 _ _ upd_same
    have hu0 : (upd (upd H tl (.lst [])) u0 (.tup [.int hs, .int dy])) u0 = some (.tup [.int hs, .int dy]) := upd_same
    generalize (upd (upd H tl (.lst [])) u0 (.tup [.int hs, .int dy])) = H0 at s12 htl0 hu0
    have T0 : TrailAt p h os H H0 d tl (hs, dy) ks [] [] f0 := ⟨.of s12, fun j z => absurd z (Nat.not_lt_zero _), htl0, .nil, by rw [List.map_nil, List.append_nil]; exact s12 _ _ W0.tab, by rw [List.map_nil, List.append_nil]; exact W0.nd, W0.ok, fun q hq => (W0.ways q hq).keep (tk_of s12), fun q hq => by cases hq⟩
    have netT : ∀ {H' : Hp}, But d H H' → NetAt C H' x p h os t F := fun b => Nt.but b (b.tkd W0.tab) ndF
    refine ⟨fun σ' H' => ∃ (l : List (Nat × Nat)) (ts : List V) (f : Nat × Nat → V) (v : V) (cur : Option (Nat × Nat)), σ' = [some (.ref x), some (.int hs), some (.int dy), some (.ref d), some (.ref tl), some v, none, none, none, none, none] ∧
        TrailAt p h os H H' d tl (hs, dy) ks l ts f ∧ stp p os l.length (hs, dy) = cur ∧ OptStop H' v cur ∧ (∀ c, cur = some c → plc p c ∈ ks ++ l.map (plc p)), ?_, ?_⟩
    · refine ⟨fun m σ' H' => ∃ (l : List (Nat × Nat)) (ts : List V) (f : Nat × Nat → V) (v : V) (cur : Option (Nat × Nat)), l.length + m = h * p ∧ σ' = [some (.ref x), some (.int hs), some (.int dy), some (.ref d), some (.ref tl), some v, none, none, none, none, none] ∧
        TrailAt p h os H H' d tl (hs, dy) ks l ts f ∧ stp p os l.length (hs, dy) = cur ∧ OptStop H' v cur, ⟨h * p, [], [], f0, _, some (hs, dy), by simp, rfl, T0, rfl, ⟨u0, rfl, hu0⟩⟩, ?_⟩
      rintro m σ' H1 ⟨l, ts, f, v, cur, hm, rfl, T1, hcur, hv⟩
      have N1 := netT T1.but
      obtain ⟨dx, _, _, _, hx, _⟩ := id N1
      refine ⟨_, rfl, rfl, _, rfl, ?_⟩
      cases cur with
      | none =>
        obtain rfl : v = .non := hv
        exact iteF (iteF ⟨l, ts, f, _, none, rfl, T1, hcur, rfl, fun c z => by cases z⟩)
      | some c =>
        obtain ⟨u, rfl, hu⟩ := hv
        have hc1 : c.1 < h := pst_house nok hh _ hcur
        refine iteT ⟨_, rfl, u, _, 0, _, rfl, rfl, SqT.of hu, atI_nat (j := 0) rfl, _, rfl, u, _, 1, _, rfl, rfl, SqT.of hu, atI_nat (j := 1) rfl, _, rfl, x, C, dx, _, _, rfl, hx, T.cl, T.nP, nf_pe, _, _, rfl, rfl, by omega, (by show 2 ≤ sizeLine; decide), fun pl npl => ?_⟩
        have s3 := same_upd (o := HO.tup [.int c.1, .int ((c.2 : Int).fmod (p : Int))]) npl
        have hpl : (upd H1 pl (.tup [.int c.1, .int ((c.2 : Int).fmod (p : Int))])) pl = some (.tup ((keyOf p c).map kV)) := by
          rw [upd_same, fmod_nat]
          rfl
        have T2 := T1.same s3
        have hu2 := s3 _ _ hu
        generalize (upd H1 pl (.tup [.int c.1, .int ((c.2 : Int).fmod (p : Int))])) = H2 at s3 hpl T2 hu2
        refine ⟨_, rfl, d, _, rfl, DGet.t T2.tab hpl, ?_⟩
        rw [wkv_val T2.plcs]
        by_cases hin : plc p c ∈ ks ++ l.map (plc p)
        · rw [if_pos hin]
          exact ⟨_, rfl, iteF ⟨l, ts, f, _, some c, rfl, T2, hcur, ⟨u, rfl, hu2⟩, fun c' e => by cases e; exact hin⟩⟩
        · rw [if_neg hin]
          refine ⟨_, rfl, iteT ?_⟩
          have hlen := T2.len nok hh
          have hkl := T2.keys nok hh
          have N2 := netT T2.but
          obtain ⟨dx2, _, _, _, hx2, _⟩ := id N2
          -- what the turn leaves
          refine ⟨fun σ' H' => ∃ (ts' : List V) (f' : Nat × Nat → V) (v : V), σ' = [some (.ref x), some (.int hs), some (.int dy), some (.ref d), some (.ref tl), some v, none, none, none, none, none] ∧ TrailAt p h os H H' d tl (hs, dy) ks (l ++ [c]) ts' f' ∧ OptStop H' v (hop p os c), ?_, ?_⟩
          · rintro σ' H' ⟨ts', f', v, rfl, T', hv'⟩
            have hl' := T'.len nok hh
            rw [List.length_append, List.length_singleton] at hl'
            refine ⟨m - 1, by omega, l ++ [c], ts', f', v, hop p os c, by rw [List.length_append, List.length_singleton]; omega, rfl, T', ?_, hv'⟩
            rw [List.length_append, List.length_singleton]
            show (stp p os l.length (hs, dy)).bind (hop p os) = _
            rw [hcur]
            rfl
          -- ways[..] = None
          refine ⟨_, rfl, _, rfl, u, _, 0, _, rfl, rfl, SqT.of hu2, atI_nat (j := 0) rfl, _, rfl, u, _, 1, _, rfl, rfl, SqT.of hu2, atI_nat (j := 1) rfl, _, rfl, x, C, dx2, _, _, rfl, hx2, T.cl, T.nP, nf_pe, _, _, rfl, rfl, by omega, (by show 2 ≤ sizeLine; decide), fun pm npm => ?_⟩
          have s4 := same_upd (o := HO.tup [.int c.1, .int ((c.2 : Int).fmod (p : Int))]) npm
          have hpm : (upd H2 pm (.tup [.int c.1, .int ((c.2 : Int).fmod (p : Int))])) pm = some (.tup ((keyOf p c).map kV)) := by
            rw [upd_same, fmod_nat]
            rfl
          have T3 := T2.same s4
          have hu3 := s4 _ _ hu2
          generalize (upd H2 pm (.tup [.int c.1, .int ((c.2 : Int).fmod (p : Int))])) = H3 at s4 hpm T3 hu3
          have Tm := T3.more (u := u) hcur hin hu3 ⟨u, rfl, hu3⟩ ntd ntl
          have hkn : (wkv p (ks ++ l.map (plc p)) f).length < sizeLine := by
            unfold wkv
            rw [List.length_map]
            exact small1000 (by omega)
          refine ⟨d, _, rfl, DPut.t T3.tab hpm hkn, ?_⟩
          rw [wkv_new T3.plcs hin, show (ks ++ l.map (plc p)) ++ [plc p c] = ks ++ (l ++ [c]).map (plc p) by rw [List.map_append, List.append_assoc]; rfl]
          have htl4 : (upd H3 d (.dT (wkv p (ks ++ (l ++ [c]).map (plc p)) (setF f (plc p c) .non)))) tl = some (.lst ts) := by
            rw [upd_ne ntd]
            exact T3.trail
          refine ⟨_, rfl, .inl ⟨rfl, _, SqL.of htl4⟩, _, rfl, tl, _, _, rfl, rfl, htl4, ?_, ?_⟩
          · have := T3.stops.length
            exact small1000 (by omega)
          have N4 := netT Tm.but
          obtain ⟨u', e4, hu5⟩ := (pair_last Tm.stops : StopAt _ (.ref u) c)
          obtain rfl : u = u' := by cases e4; rfl
          generalize (upd (upd H3 d (.dT (wkv p (ks ++ (l ++ [c]).map (plc p)) (setF f (plc p c) .non)))) tl (.lst (ts ++ [.ref u]))) = H4 at Tm N4 hu5
          obtain ⟨dx4, _, _, _, hx4, _⟩ := id N4
          refine ⟨_, rfl, x, dx4, _, rfl, hx4, nf_no (by decide +kernel) (by decide +kernel) (by decide +kernel) (by decide +kernel), _, rfl, u, _, 0, _, rfl, rfl, SqT.of hu5, atI_nat (j := 0) rfl, _, rfl, u, _, 1, _, rfl, rfl, SqT.of hu5, atI_nat (j := 1) rfl, ?_⟩
          refine ⟨x, t, p, h, c.1, c.2, os, F, rfl, N4, hp, hc1, fun H5 v s5 hv5 => ⟨_, _, v, rfl, Tm.same s5, ?_⟩⟩
          cases e : hop p os c with
          | none =>
            rw [show hop p os (c.1, c.2) = none from e] at hv5
            exact hv5
          | some c' =>
            rw [show hop p os (c.1, c.2) = some c' from e] at hv5
            obtain ⟨y, e1, _, e2⟩ := hv5
            exact ⟨y, e1, e2⟩
    · rintro σ' H1 ⟨l, ts, f, v, cur, rfl, T1, hcur, hv, hin⟩
      have hks : ∀ q ∈ ks, q ∈ ks ++ l.map (plc p) := fun q hq => List.mem_append_left _ hq
      have memK : (hs, dy) ∈ ks ++ l.map (plc p) := by
        have e0 : plc p (hs, dy) = (hs, dy) := plc_lt hdy
        by_cases z : l.length = 0
        · rw [z] at hcur
          have := hin (hs, dy) hcur.symm
          rw [e0] at this
          exact this
        · have h0 := T1.stp 0 (by omega)
          exact List.mem_append_right _ (List.mem_map.mpr ⟨(hs, dy), List.mem_of_getElem? (h0.trans rfl), e0⟩)
      have N1 := netT T1.but
      obtain ⟨dx, _, _, _, hx, _⟩ := id N1
      refine ⟨fun σ' H' => ∃ (ts : List V) (f : Nat × Nat → V) (x8 : Option V) (g : Nat × Nat), σ' = [some (.ref x), some (.int hs), some (.int dy), some (.ref d), some (.ref tl), some v, some (.int g.1), some (.int g.2), x8, none, none] ∧
          TrailAt p h os H H' d tl (hs, dy) ks l ts f ∧ dst p h os (hs, dy) = some g, ⟨_, rfl, rfl, _, rfl, ?_⟩, ?_⟩
      · cases cur with
        | none =>
          obtain rfl : v = .non := hv
          have hne : l ≠ [] := fun z => by
            rw [z] at hcur
            cases hcur
          obtain ⟨l', c, rfl⟩ : ∃ l' c, l = l' ++ [c] := ⟨l.dropLast, l.getLast hne, (List.dropLast_concat_getLast hne).symm⟩
          obtain ⟨ts', v', rfl, _, u, rfl, hu⟩ := pair_split T1.stops
          have hc : stp p os l'.length (hs, dy) = some c := by
            rw [← T1.stp l'.length (by rw [List.length_append, List.length_singleton]; omega), List.getElem?_append_right (Nat.le_refl _), Nat.sub_self]
            rfl
          have hg : dst p h os (hs, dy) = some c := (dst_iff nok hh).mpr ⟨_, hc, by
            rw [List.length_append, List.length_singleton] at hcur
            have e : (stp p os l'.length (hs, dy)).bind (hop p os) = none := hcur
            rw [hc] at e
            exact e⟩
          refine iteT ⟨_, rfl, 1, rfl, tl, _, -1, _, rfl, rfl, SqL.of T1.trail, atI_last _ _, ?_⟩
          exact ⟨u, _, rfl, SqT.of hu, rfl, _, _, rfl, _, _, rfl, rfl, _, f, none, c, rfl, T1, hg⟩
        | some c =>
          obtain ⟨u, rfl, hu⟩ := hv
          have hin := hin c rfl
          have hc1 : c.1 < h := pst_house nok hh _ hcur
          have hdc := dst_stp nok hh hcur
          refine iteF ⟨_, rfl, _, rfl, u, _, 0, _, rfl, rfl, SqT.of hu, atI_nat (j := 0) rfl, _, rfl, u, _, 1, _, rfl, rfl, SqT.of hu, atI_nat (j := 1) rfl, _, rfl, x, C, dx, _, _, rfl, hx, T.cl, T.nP, nf_pe, _, _, rfl, rfl, by omega, (by show 2 ≤ sizeLine; decide), fun pl npl => ?_⟩
          have s3 := same_upd (o := HO.tup [.int c.1, .int ((c.2 : Int).fmod (p : Int))]) npl
          have hpl : (upd H1 pl (.tup [.int c.1, .int ((c.2 : Int).fmod (p : Int))])) pl = some (.tup ((keyOf p c).map kV)) := by
            rw [upd_same, fmod_nat]
            rfl
          have T2 := T1.same s3
          have hu2 := s3 _ _ hu
          generalize (upd H1 pl (.tup [.int c.1, .int ((c.2 : Int).fmod (p : Int))])) = H2 at s3 hpl T2 hu2
          have hg := DGet.t T2.tab hpl
          rw [wkv_val T2.plcs, if_pos hin] at hg
          refine ⟨d, _, rfl, hg, ?_⟩
          refine ⟨_, rfl, rfl, _, rfl, ?_⟩
          -- what is known of this place
          have know : (f (plc p c) = .non ∧ dst p h os (hs, dy) = none) ∨ ∃ (z : Addr) (g : Nat × Nat), f (plc p c) = .ref z ∧ H2 z = some (.tup [.int g.1, .int g.2]) ∧ dst p h os (hs, dy) = some (g.1, c.2 + g.2) := by
            rcases List.mem_append.mp hin with z | z
            · have hw := T2.ways _ z
              have hd2 := dst_way nok hc1
              cases e : wayOf p h os (plc p c) with
              | none =>
                rw [e] at hw hd2
                exact .inl ⟨hw, hdc.trans hd2⟩
              | some g =>
                rw [e] at hw hd2
                obtain ⟨y, e1, e2⟩ := hw
                exact .inr ⟨y, g, e1, e2, hdc.trans hd2⟩
            · refine .inl ⟨T2.non _ z, ?_⟩
              obtain ⟨s, hs1, hs2⟩ := List.mem_map.mp z
              obtain ⟨j, hj⟩ := List.getElem?_of_mem hs1
              have lt := (List.getElem?_eq_some_iff.mp hj).1
              have hsj := (T2.stp j lt).symm.trans hj
              have e1 : j + (l.length - j - 1 + 1) = l.length := by omega
              have more := stp_more (b := c) nok hsj (k := l.length - j - 1) (by rw [e1]; exact hcur)
              have e2 : stp p os (l.length - j) s = some c := by
                have := hcur
                rw [show l.length = j + (l.length - j) by omega, stp_add, hsj] at this
                exact this
              have hk : c = shf (p * (c.2 / p - s.2 / p)) s := by
                have h1 : s.1 = c.1 := (Prod.mk.inj hs2).1
                have h2 : s.2 % p = c.2 % p := (Prod.mk.inj hs2).2
                refine Prod.ext h1.symm ?_
                show c.2 = s.2 + p * (c.2 / p - s.2 / p)
                have a1 := Nat.div_add_mod c.2 p
                have a2 := Nat.div_add_mod s.2 p
                have a3 : s.2 / p ≤ c.2 / p := Nat.div_le_div_right (Nat.le_of_lt more)
                rw [Nat.mul_sub]
                have a4 : p * (s.2 / p) ≤ p * (c.2 / p) := Nat.mul_le_mul_left _ a3
                omega
              have pos : 0 < p * (c.2 / p - s.2 / p) := by
                have h3 : c.2 = s.2 + p * (c.2 / p - s.2 / p) := congrArg Prod.snd hk
                omega
              rw [hk] at e2
              rw [T2.dst nok hh hs1]
              exact dst_cycle nok (pst_house nok hh j hsj) e2 pos
          rcases know with ⟨e1, e2⟩ | ⟨z, g, e1, e2, e3⟩
          · rw [e1]
            exact iteT (q H2 _ f T2.but (T2.done nok hh e2) hks memK)
          · rw [e1]
            refine iteF ⟨_, rfl, z, _, 0, _, rfl, rfl, SqT.of e2, atI_nat (j := 0) rfl, _, rfl, u, _, 1, _, rfl, rfl, SqT.of hu2, atI_nat (j := 1) rfl, _, rfl, z, _, 1, _, rfl, rfl, SqT.of e2, atI_nat (j := 1) rfl, _, _, rfl, rfl, ?_⟩
            refine ⟨_, _, rfl, _, f, some (.ref z), (g.1, c.2 + g.2), ?_, T2, e3⟩
            show _ = [some (.ref x), some (.int hs), some (.int dy), some (.ref d), some (.ref tl), some (V.ref u), some (.int g.1), some (.int ((c.2 + g.2 : Nat) : Int)), some (.ref z), none, none]
            rw [Int.natCast_add]
            rfl
      · rintro σ' H2 ⟨ts, f, x8, g, rfl, T2, hg⟩
        have hTl := T2.stops.length
        refine ⟨_, rfl, tl, rfl, ⟨_, SqL.of T2.trail⟩, ?_⟩
        refine for_list (K := K) (a := tl) (xs := ts) (fun j σ H' => (∃ x9 x10, σ = [some (.ref x), some (.int hs), some (.int dy), some (.ref d), some (.ref tl), some v, some (.int g.1), some (.int g.2), x8, x9, x10]) ∧ ∃ f, EndAt p h os H H' d tl (ks ++ l.map (plc p)) l ts j f)
          ⟨⟨_, _, rfl⟩, f, ⟨T2.but, T2.trail, T2.stops, T2.tab, fun q hq hn => ?_⟩⟩ (fun j σ H' _ ⟨_, f, E'⟩ => SqL.of E'.trail) ?_ ?_
        · rcases List.mem_append.mp hq with z | z
          · exact T2.ways q z
          · exact absurd z hn
        · rintro j v' σ H3 hj ⟨⟨x9, x10, rfl⟩, f, E3⟩
          have lt : j < l.length := by
            rw [← hTl]
            exact (List.getElem?_eq_some_iff.mp hj).1
          have ej := List.getElem?_eq_getElem lt
          obtain ⟨v'', hv'', u, e0, hu⟩ := Paired.get? (i := j) E3.stops ej
          obtain rfl : v'' = v' := Option.some.inj (hv''.symm.trans hj)
          subst e0
          have hsm : l[j] ∈ l := List.getElem_mem lt
          have hdr : l.drop j = l[j] :: l.drop (j + 1) := List.drop_eq_getElem_cons lt
          generalize l[j] = sj at ej hu hsm hdr
          have hdj := T2.dst nok hh hsm
          have hhj := T2.house nok hh sj hsm
          rw [hg] at hdj
          have hle := dst_le nok hhj hdj.symm
          obtain ⟨dx3, _, _, _, hx3, _⟩ := id (netT E3.but)
          refine ⟨u, _, rfl, SqT.of hu, rfl, _, _, rfl, _, _, rfl, rfl, ?_⟩
          refine ⟨_, rfl, _, rfl, _, rfl, _, _, rfl, rfl, (by show 2 ≤ sizeLine; decide), fun y ny => ?_⟩
          have s4 := same_upd (o := HO.tup [.int g.1, .int ((g.2 : Int) - (sj.2 : Int))]) ny
          have hy : (upd H3 y (.tup [.int g.1, .int ((g.2 : Int) - (sj.2 : Int))])) y = some (.tup [.int g.1, .int ((g.2 - sj.2 : Nat) : Int)]) := by
            rw [upd_same, show ((g.2 : Int) - (sj.2 : Int)) = ((g.2 - sj.2 : Nat) : Int) by omega]
          have hx4 := s4 _ _ hx3
          generalize (upd H3 y (.tup [.int g.1, .int ((g.2 : Int) - (sj.2 : Int))])) = H4 at s4 hy hx4
          refine ⟨_, rfl, _, rfl, _, rfl, _, rfl, x, C, dx3, _, _, rfl, hx4, T.cl, T.nP, nf_pe, _, _, rfl, rfl, by omega, (by show 2 ≤ sizeLine; decide), fun pk npk => ?_⟩
          have s5 := same_upd (o := HO.tup [.int sj.1, .int ((sj.2 : Int).fmod (p : Int))]) npk
          have hpk : (upd H4 pk (.tup [.int sj.1, .int ((sj.2 : Int).fmod (p : Int))])) pk = some (.tup ((keyOf p sj).map kV)) := by
            rw [upd_same, fmod_nat]
            rfl
          have s45 := s4.trans s5
          have hy5 := s5 _ _ hy
          generalize (upd H4 pk (.tup [.int sj.1, .int ((sj.2 : Int).fmod (p : Int))])) = H5 at s45 hpk hy5
          have htab := s45 _ _ E3.tab
          have hkl := T2.keys nok hh
          have hkn : (wkv p (ks ++ l.map (plc p)) f).length < sizeLine := by
            unfold wkv
            rw [List.length_map]
            exact small1000 (by omega)
          refine ⟨d, _, rfl, DPut.t htab hpk hkn, ?_⟩
          rw [wkv_old T2.plcs (List.mem_append_right _ (List.mem_map.mpr ⟨sj, hsm, rfl⟩))]
          have k6 : TupKeep H5 (upd H5 d (.dT (wkv p (ks ++ l.map (plc p)) (setF f (plc p sj) (.ref y))))) := fun b ys e => by
            rw [upd_ne (ne_of e htab (by intro z; cases z))]
            exact e
          have k36 := (tk_of s45).trans k6
          refine ⟨⟨_, _, rfl⟩, setF f (plc p sj) (.ref y), ⟨(E3.but.trans (.of s45)).trans .upd, ?_, StopsAt.keep k36 E3.stops, upd_same, fun q hq hn => ?_⟩⟩
          · rw [upd_ne ntd]
            exact s45 _ _ E3.trail
          · show OptStop _ (if q = plc p sj then _ else _) _
            by_cases z : q = plc p sj
            · rw [if_pos z, z, wayOf_plc nok hhj]
              unfold wayOf
              rw [← hdj]
              exact ⟨y, rfl, k6 _ _ hy5⟩
            · rw [if_neg z]
              refine (E3.ways q hq ?_).keep k36
              rw [hdr]
              intro z2
              rcases List.mem_cons.mp z2 with e | e
              · exact z e
              · exact hn e
        · rintro σ H3 ⟨_, f, E3⟩
          rw [hTl] at E3
          refine q H3 _ f E3.but ⟨E3.tab, T2.nd, T2.oks nok hh, fun q hq => E3.ways q hq ?_⟩ hks memK
          rw [List.drop_eq_nil_iff.mpr (Nat.le_refl _)]
          intro z
          cases z
end
def spFindWays (C : Addr) : Sp := fun vs H Q _ => ∃ (x t : Addr) (p h : Nat) (os : List Od) (F : List Addr), vs = [.ref x] ∧ NetAt C H x p h os t F ∧ NetOk p h os ∧
  ∀ H' d ks f, Same H H' → H d = none → WaysAt p h os H' d ks f → (∀ q, q ∈ ks ↔ q ∈ lets p h) → Q (.ref d) H'
section
variable {P : Program} {w : World} {K : PySem.W.Frag} {mg : Str → Option Value} {base : Heap}
theorem ok_find_ways {f C : Addr} {fd : FuncData} (F : Fun K "find_ways" "find_ways" s_find_ways f fd) (DL : Df P w K mg base "letters" 2 P_letters (spLets C)) (DA : Df P w K mg base "add_ways" 3 P_add_ways (spAddWays C)) :
    FnOk P w K mg base CX0 4 f fd P_find_ways (spFindWays C) := by
  obtain ⟨fL, fdL, gL, kL, bL, GL⟩ := DL
  obtain ⟨fA, fdA, gA, kA, bA, GA⟩ := DA
  refine F.ok sc_find_ways (fun vs H Q E h => ?_) (fun cdv A outer s H vs Q E hr h => ?_)
  · obtain ⟨x, t, p, h, os, F, rfl, _⟩ := h
    rfl
  · obtain ⟨x, t, p, h, os, F, rfl, Nt, nok, q⟩ := h
    refine ⟨_, pss_cons (ps_set (i := 1) sc_find_ways.nd rfl (.inl rfl) pe_dnewT)
      (pss_cons (ps_for PassesOwn.never rfl (pi_list (pe_call GL (hr.mono (by decide)) (by rfl) gL kL bL .nil pass0 (pa_cons (pv 0) pa_nil))) (pg_tup (by rfl) (pgs_cons (pg_name (i := 2) sc_find_ways.nd rfl (.inl rfl)) (pgs_cons (pg_name (i := 3) sc_find_ways.nd rfl (.inl rfl)) pgs_nil)))
        (pss_one (ps_expr (pe_call GA hr (by rfl) gA kA bA .nil pass0 (pa_cons (pv 0) (pa_cons (pv 2) (pa_cons (pv 3) (pa_cons (pv 1) pa_nil))))))))
      (pss_one (ps_ret (pv 1)))), ?_⟩
    refine fun d nd => ?_
    have s1 := same_upd (o := HO.dT []) nd
    have ndF : d ∉ F := Nt.new nd
    refine ⟨_, rfl, x, t, p, h, os, F, rfl, Nt.same s1, nok, fun H1 r ws s2 nr hr1 hws => ?_⟩
    have hlen := hws.length
    have s12 := s1.trans s2
    have hd1 : H1 d = some (.dT []) := s2 _ _ upd_same
    have nrd : r ≠ d := (ne_of_none (upd_same (H := H)) nr).symm
    have N1 := Nt.same s12
    refine ⟨r, rfl, ⟨_, SqL.of hr1⟩, ?_⟩
    refine for_list (K := K) (a := r) (xs := ws) (fun i σ H' => (∃ x2 x3, σ = [some (.ref x), some (.ref d), x2, x3]) ∧ But d H1 H' ∧ ∃ ks f, WaysAt p h os H' d ks f ∧ ∀ q ∈ (lets p h).take i, q ∈ ks)
      ⟨⟨_, _, rfl⟩, .refl, [], fun _ => .non, ⟨hd1, List.nodup_nil, (fun q hq => by cases hq), (fun q hq => by cases hq)⟩, (fun q hq => by cases hq)⟩ (fun i σ H' _ ⟨_, b', _⟩ => SqL.of (b' r _ nrd hr1)) ?_ ?_
    · rintro i v σ H2 hi ⟨⟨x2, x3, rfl⟩, b2, ks, f, W2, hk⟩
      have lt : i < (lets p h).length := by
        rw [← hlen]
        exact (List.getElem?_eq_some_iff.mp hi).1
      have ei := List.getElem?_eq_getElem lt
      obtain ⟨v', hv', u, e0, hu⟩ := Paired.get? (i := i) hws ei
      obtain rfl : v' = v := Option.some.inj (hv'.symm.trans hi)
      subst e0
      have hm := mem_lets.mp (List.getElem_mem lt)
      generalize (lets p h)[i] = st at ei hu hm
      have k2 : TupKeep H1 H2 := b2.tkd hd1
      refine ⟨u, _, rfl, SqT.of (k2 _ _ hu), rfl, _, _, rfl, _, _, rfl, rfl, ?_⟩
      refine ⟨_, rfl, _, rfl, _, rfl, _, rfl, x, t, d, p, h, st.1, st.2, os, F, ks, f, rfl, N1.but b2 k2 ndF, nok, hm.1, hm.2, ndF, W2, fun H3 ks' f' b3 W3 sub mem => ?_⟩
      refine ⟨⟨_, _, rfl⟩, b2.trans b3, ks', f', W3, fun q hq => ?_⟩
      rw [List.take_add_one, ei] at hq
      rcases List.mem_append.mp hq with z | z
      · exact sub q (hk q z)
      · rw [Option.toList_some, List.mem_singleton] at z
        rw [z]
        exact mem
    · rintro σ H2 ⟨⟨x2, x3, rfl⟩, b2, ks, f, W2, hk⟩
      refine ⟨_, rfl, q H2 d ks f (fun b o e => b2 b o (ne_of_none e nd) (s12 _ _ e)) nd W2 fun z => ⟨fun hz => mem_lets.mpr (W2.ok z hz), fun hz => hk z ?_⟩⟩
      rw [hlen, List.take_of_length_le (Nat.le_refl _)]
      exact hz
end
abbrev s_ways_to : Stmt := top 57
abbrev N_ways_to : List Str := ["net", "goal", "ways", "found", "house", "day", "way"]
abbrev P_ways_to : List Str := ["net", "goal"]
theorem sc_ways_to : FnScope N_ways_to P_ways_to (defScope s_ways_to) := ⟨rfl, rfl, rfl, by decide +kernel, rfl, by decide +kernel, by decide +kernel⟩
/-! ### the letters of the first period that come to a goal -/
def toG (p h : Nat) (os : List Od) (g : Nat) (s : Nat × Nat) : Option (Nat × Nat × Nat) := match wayOf p h os s with
  | none => none
  | some w => if w.1 = g then some (s.1, s.2, w.2) else none
def TripAt (H : Hp) (v : V) (s : Nat × Nat × Nat) : Prop := ∃ u, v = .ref u ∧ H u = some (.tup [.int s.1, .int s.2.1, .int s.2.2])
theorem TripAt.keep {H H' : Hp} {v : V} {s : Nat × Nat × Nat} (k : TupKeep H H') (h : TripAt H v s) : TripAt H' v s := by
  obtain ⟨u, e, hu⟩ := h
  exact ⟨u, e, k _ _ hu⟩
theorem TripsAt.keep {H H' : Hp} {vs : List V} {l : List (Nat × Nat × Nat)} (k : TupKeep H H') (h : Paired (TripAt H) vs l) : Paired (TripAt H') vs l := Paired.mapP h fun _ _ q => q.keep k
def toGs (p h : Nat) (os : List Od) (g : Nat) : List (Nat × Nat × Nat) := (lets p h).filterMap (toG p h os g)
theorem take_fm {α β : Type} {f : α → Option β} {l : List α} {i : Nat} {q : α} (e : l[i]? = some q) : (l.take (i + 1)).filterMap f = (l.take i).filterMap f ++ (f q).toList := by
  rw [List.take_add_one, e, List.filterMap_append]
  cases h : f q <;> simp [h]
theorem toGs_len {p h : Nat} {os : List Od} {g : Nat} : (toGs p h os g).length ≤ h * p := by
  rw [← lets_len]
  exact List.length_filterMap_le _ _
def spWaysTo (C : Addr) : Sp := fun vs H Q _ => ∃ (x t : Addr) (p h g : Nat) (os : List Od) (F : List Addr), vs = [.ref x, .int g] ∧ NetAt C H x p h os t F ∧ NetOk p h os ∧
  ∀ H' r ws, Same H H' → H r = none → H' r = some (.lst ws) → Paired (TripAt H') ws (toGs p h os g) → Q (.ref r) H'
section
variable {P : Program} {w : World} {K : PySem.W.Frag} {mg : Str → Option Value} {base : Heap}
theorem ok_ways_to {f C : Addr} {fd : FuncData} (F : Fun K "ways_to" "ways_to" s_ways_to f fd) (DL : Df P w K mg base "letters" 2 P_letters (spLets C)) (DW : Df P w K mg base "find_ways" 4 P_find_ways (spFindWays C)) :
    FnOk P w K mg base CX0 5 f fd P_ways_to (spWaysTo C) := by
  obtain ⟨fL, fdL, gL, kL, bL, GL⟩ := DL
  obtain ⟨fW, fdW, gW, kW, bW, GW⟩ := DW
  refine F.ok sc_ways_to (fun vs H Q E h => ?_) (fun cdv A outer s H vs Q E hr h => ?_)
  · obtain ⟨x, t, p, h, g, os, F, rfl, _⟩ := h
    rfl
  · obtain ⟨x, t, p, h, g, os, F, rfl, Nt, nok, q⟩ := h
    have hu : (A.deeper (PyProof.Rows.envOfC "ways_to" (defScope s_ways_to) s.heap.objs.size f cdv)).units + 1 < cLine := hu_of hr
    refine ⟨_, pss_cons (ps_set (i := 2) sc_ways_to.nd rfl (.inl rfl) (pe_call GW hr (by rfl) gW kW bW .nil pass0 (pa_cons (pv 0) pa_nil)))
      (pss_cons (ps_set (i := 3) sc_ways_to.nd rfl (.inl rfl) (pe_lst pa_nil))
      (pss_cons (ps_for PassesOwn.never rfl (pi_list (pe_call GL (hr.mono (by decide)) (by rfl) gL kL bL .nil pass0 (pa_cons (pv 0) pa_nil))) (pg_tup (by rfl) (pgs_cons (pg_name (i := 4) sc_ways_to.nd rfl (.inl rfl)) (pgs_cons (pg_name (i := 5) sc_ways_to.nd rfl (.inl rfl)) pgs_nil)))
        (pss_cons (ps_set (i := 6) sc_ways_to.nd rfl (.inl rfl) (pe_dget hu (pv 2) (pe_tup (pa_cons (pv 4) (pa_cons (pv 5) pa_nil))) (fun _ _ => rfl)))
        (pss_one (ps_if (PW.pt (pw_and (pt_cmpR op_notN (pv 6) pe_non (nomark _)) (pw_and1 (pt_cmpR op_eq (pe_ix ix_tup (pv 6) pe_int (fun _ _ => rfl)) (pv 1) (nomark _)))))
          (pss_one (ps_expr (pe_bm PySem.F.plainAttrs_list PySem.F.slot_list_append PySem.F.type_list_append mt_append (pv 3) (pa_cons (pe_tup (pa_cons (pv 4) (pa_cons (pv 5) (pa_cons (pe_ix ix_tup (pv 6) pe_int (fun _ _ => rfl)) pa_nil)))) pa_nil)))) pss_nil))))
      (pss_one (ps_ret (pv 3))))), ?_⟩
    have p30 := nok.p30; have h10 := nok.h10
    have big : h * p ≤ 300 := Nat.mul_le_mul h10 p30
    refine ⟨_, rfl, x, t, p, h, os, F, rfl, Nt, nok, fun H1 d ks f s1 nd W1 hks => ?_⟩
    refine ⟨Nat.zero_le _, fun fo nfo => ?_⟩
    have s2 := same_upd (o := HO.lst []) nfo
    have s12 := s1.trans s2
    have nfo0 : H fo = none := s1.free nfo
    refine ⟨_, rfl, x, t, p, h, os, F, rfl, Nt.same s12, nok, fun H2 r ws s3 nr hr2 hws => ?_⟩
    have hlen := hws.length
    have W2 := (W1.same s2).same s3
    have hfo2 : H2 fo = some (.lst []) := s3 _ _ upd_same
    have nrf : r ≠ fo := (ne_of_none (upd_same (H := H1)) nr).symm
    have ndf : d ≠ fo := ne_of_none W1.tab nfo
    refine ⟨r, rfl, ⟨_, SqL.of hr2⟩, ?_⟩
    refine for_list (K := K) (a := r) (xs := ws) (fun i σ H' => (∃ x4 x5 x6, σ = [some (.ref x), some (.int g), some (.ref d), some (.ref fo), x4, x5, x6]) ∧ But fo H2 H' ∧ ∃ us, H' fo = some (.lst us) ∧ Paired (TripAt H') us (((lets p h).take i).filterMap (toG p h os g)))
      ⟨⟨_, _, _, rfl⟩, .refl, [], hfo2, .nil⟩ (fun i σ H' _ ⟨_, b', _⟩ => SqL.of (b' r _ nrf hr2)) ?_ ?_
    · rintro i v σ H3 hi ⟨⟨x4, x5, x6, rfl⟩, b3, us, hfo3, hus⟩
      have lt : i < (lets p h).length := by
        rw [← hlen]
        exact (List.getElem?_eq_some_iff.mp hi).1
      have ei := List.getElem?_eq_getElem lt
      obtain ⟨v', hv', u, e0, hu⟩ := Paired.get? (i := i) hws ei
      obtain rfl : v' = v := Option.some.inj (hv'.symm.trans hi)
      subst e0
      have hmem := List.getElem_mem lt
      have hm := mem_lets.mp hmem
      generalize (lets p h)[i] = st at ei hu hm hmem
      have k3 : TupKeep H2 H3 := fun b xs e => b3 b _ (ne_of e hfo2 (by intro z; cases z)) e
      refine ⟨u, _, rfl, SqT.of (k3 _ _ hu), rfl, _, _, rfl, _, _, rfl, rfl, ?_⟩
      refine ⟨_, rfl, _, rfl, _, rfl, (by show 2 ≤ sizeLine; decide), fun pk npk => ?_⟩
      have s4 := same_upd (o := HO.tup [.int st.1, .int st.2]) npk
      have hpk : (upd H3 pk (.tup [.int st.1, .int st.2])) pk = some (.tup ((keyOf p st).map kV)) := by
        rw [upd_same]
        show some (HO.tup [V.int st.1, V.int st.2]) = some (HO.tup [V.int st.1, V.int ((st.2 % p : Nat) : Int)])
        rw [Nat.mod_eq_of_lt hm.2]
      have hd4 := s4 _ _ (b3 d _ ndf W2.tab)
      have hfo4 := s4 _ _ hfo3
      have hus4 := TripsAt.keep (tk_of s4) hus
      have k4 : TupKeep H2 _ := k3.trans (tk_of s4)
      have b4 : But fo H2 _ := b3.trans (.of s4)
      generalize (upd H3 pk (.tup [.int st.1, .int st.2])) = H4 at s4 hpk hd4 hfo4 hus4 k4 b4
      have hg := DGet.t hd4 hpk
      have hin : plc p st ∈ ks := by rw [plc_lt hm.2]; exact (hks st).mpr hmem
      rw [wkv_val fun q hq => plc_lt (W2.ok q hq).2, if_pos hin] at hg
      have hw := (W2.ways _ hin).keep k4
      rw [plc_lt hm.2] at hg hw
      refine ⟨d, _, rfl, hg, ?_⟩
      have hul : us.length ≤ h * p := by
        rw [hus.length]
        refine Nat.le_trans (List.length_filterMap_le _ _) ?_
        rw [List.length_take, lets_len]
        omega
      have none_end : toG p h os g st = none → (fun σ H' => (∃ x4 x5 x6, σ = [some (.ref x), some (.int g), some (.ref d), some (.ref fo), x4, x5, x6]) ∧ But fo H2 H' ∧ ∃ us, H' fo = some (.lst us) ∧ Paired (TripAt H') us (((lets p h).take (i + 1)).filterMap (toG p h os g)) : L2.St → Hp → Prop)
          [some (.ref x), some (.int g), some (.ref d), some (.ref fo), some (.int st.1), some (.int st.2), some (f st)] H4 := fun e => by
        refine ⟨⟨_, _, _, rfl⟩, b4, us, hfo4, ?_⟩
        rw [take_fm ei, e, Option.toList_none, List.append_nil]
        exact hus4
      refine ⟨_, rfl, rfl, _, rfl, ?_⟩
      cases e : wayOf p h os st with
      | none =>
        rw [e] at hw
        have hw : f st = .non := hw
        rw [hw]
        refine iteF (iteF ?_)
        have := none_end (by unfold toG; rw [e])
        rw [hw] at this
        exact this
      | some y =>
        rw [e] at hw
        obtain ⟨z, ez, hz⟩ := hw
        rw [ez]
        refine iteT ⟨_, rfl, z, _, 0, _, rfl, rfl, SqT.of hz, atI_nat (j := 0) rfl, _, rfl, rfl, _, rfl, ite2 (fun c => ?_) (fun c => ?_)⟩
        · have eg : y.1 = g := by
            have q2 := V.int.inj (of_decide_eq_true c)
            omega
          refine ⟨_, rfl, .inl ⟨rfl, _, SqL.of hfo4⟩, _, rfl, _, rfl, _, rfl, z, _, 1, _, rfl, rfl, SqT.of hz, atI_nat (j := 1) rfl, (by show 3 ≤ sizeLine; decide), fun y3 ny3 => ?_⟩
          have s5 := same_upd (o := HO.tup [.int st.1, .int st.2, .int y.2]) ny3
          have hfo5 := s5 _ _ hfo4
          have ny3f : y3 ≠ fo := (ne_of_none hfo4 ny3).symm
          refine ⟨fo, _, _, rfl, rfl, hfo5, small1000 (by omega), ⟨_, _, _, rfl⟩, (b4.trans (.of s5)).trans .upd, _, upd_same, ?_⟩
          have k6 : TupKeep _ _ := (tk_of s5).trans (TupKeep.lst (o := HO.lst (us ++ [.ref y3])) hfo5)
          rw [take_fm ei]
          have et : toG p h os g st = some (st.1, st.2, y.2) := by
            unfold toG
            rw [e]
            show (if y.1 = g then _ else _) = _
            rw [if_pos eg]
          rw [et]
          exact Paired.snoc (TripsAt.keep k6 hus4) ⟨y3, rfl, by rw [upd_ne ny3f, upd_same]⟩
        · have := none_end (by
            unfold toG
            rw [e]
            show (if y.1 = g then _ else _) = _
            rw [if_neg fun z => c (decide_eq_true (by rw [z]))])
          rw [ez] at this
          exact this
    · rintro σ H3 ⟨⟨x4, x5, x6, rfl⟩, b3, us, hfo3, hus⟩
      rw [hlen, List.take_of_length_le (Nat.le_refl _)] at hus
      refine ⟨_, rfl, q H3 fo us (fun b o e => b3 b o (ne_of_none e nfo0) (s3 _ _ (s12 _ _ e))) nfo0 hfo3 hus⟩
end
/-! ### days of posting: plain mathematics -/
/-- the latest day of posting, of those that differ from d by periods, for an arrival by the day -/
def post (p day d n : Nat) : Int := ((day : Int) - n) - (((day : Int) - n) - d).fmod p
theorem post_spec {p day d n : Nat} (hp : 0 < p) : post p day d n ≤ (day : Int) - n ∧ (∃ k : Int, post p day d n = d + p * k) ∧ ∀ (t : Int), t ≤ (day : Int) - n → (∃ k : Int, t = d + p * k) → t ≤ post p day d n := by
  unfold post
  have hp' : (0 : Int) < p := by omega
  rw [Int.fmod_eq_emod_of_nonneg _ (Int.le_of_lt hp')]
  have a1 := Int.emod_nonneg ((day : Int) - n - d) (Int.ne_of_gt hp')
  have a2 := Int.emod_lt_of_pos ((day : Int) - n - d) hp'
  have a3 := Int.mul_ediv_add_emod ((day : Int) - n - d) p
  refine ⟨by omega, ⟨((day : Int) - n - d) / p, by omega⟩, ?_⟩
  rintro t ht ⟨k, rfl⟩
  have h1 : (p : Int) * k < p * (((day : Int) - n - d) / p + 1) := by
    rw [Int.mul_add, Int.mul_one]
    omega
  have h2 : k < ((day : Int) - n - d) / p + 1 := Int.lt_of_mul_lt_mul_left h1 (Int.le_of_lt hp')
  have h3 : (p : Int) * k ≤ p * (((day : Int) - n - d) / p) := Int.mul_le_mul_of_nonneg_left (by omega) (Int.le_of_lt hp')
  omega
theorem toG_some {p h g : Nat} {os : List Od} {s : Nat × Nat} {z : Nat × Nat × Nat} : toG p h os g s = some z ↔ wayOf p h os s = some (g, z.2.2) ∧ z = (s.1, s.2, z.2.2) := by
  unfold toG
  cases e : wayOf p h os s with
  | none => simp
  | some w =>
    show (if w.1 = g then some (s.1, s.2, w.2) else none) = some z ↔ _
    constructor
    · intro q
      by_cases c : w.1 = g
      · rw [if_pos c] at q
        cases q
        exact ⟨by rw [← c], rfl⟩
      · rw [if_neg c] at q
        cases q
    · rintro ⟨q1, q2⟩
      obtain rfl := Option.some.inj q1
      rw [if_pos rfl, q2]
theorem mem_toGs {p h g : Nat} {os : List Od} {z : Nat × Nat × Nat} : z ∈ toGs p h os g ↔ z.1 < h ∧ z.2.1 < p ∧ wayOf p h os (z.1, z.2.1) = some (g, z.2.2) := by
  unfold toGs
  rw [List.mem_filterMap]
  constructor
  · rintro ⟨s, hs, e⟩
    obtain ⟨h1, h2⟩ := toG_some.mp e
    have h3 := mem_lets.mp hs
    rw [h2]
    exact ⟨h3.1, h3.2, h1⟩
  · rintro ⟨h1, h2, h3⟩
    exact ⟨(z.1, z.2.1), mem_lets.mpr ⟨h1, h2⟩, toG_some.mpr ⟨h3, rfl⟩⟩
/-- a letter's goal, by the way of its place -/
theorem dst_of_way {p h g n hs d t : Nat} {os : List Od} (ok : NetOk p h os) (hh : hs < h) (e : wayOf p h os (hs, d) = some (g, n)) (ht : t % p = d) : dst p h os (hs, t) = some (g, t + n) := by
  rw [dst_way ok (s := (hs, t)) hh]
  show (wayOf p h os (hs, t % p)).map _ = _
  rw [ht, e]
  rfl
theorem way_of_dst {p h g a hs t : Nat} {os : List Od} (ok : NetOk p h os) (hh : hs < h) (e : dst p h os (hs, t) = some (g, a)) : wayOf p h os (hs, t % p) = some (g, a - t) ∧ t ≤ a := by
  have hle := dst_le ok (st := (hs, t)) hh e
  refine ⟨?_, hle⟩
  have := wayOf_plc ok (s := (hs, t)) hh
  show wayOf p h os (plc p (hs, t)) = _
  rw [this]
  unfold wayOf
  rw [e]
  rfl
def LastP (p h : Nat) (os : List Od) (hs g day : Nat) (v : V) : Prop :=
  (v = .non ∧ ∀ t a, dst p h os (hs, t) = some (g, a) → day < a) ∨ ∃ t a : Nat, v = .int t ∧ dst p h os (hs, t) = some (g, a) ∧ a ≤ day ∧ ∀ t' a', dst p h os (hs, t') = some (g, a') → a' ≤ day → t' ≤ t
theorem LastP.uniq {p h hs g day : Nat} {os : List Od} {v v' : V} (a : LastP p h os hs g day v) (b : LastP p h os hs g day v') : v = v' := by
  rcases a with ⟨rfl, a1⟩ | ⟨t, x, rfl, a1, a2, a3⟩
  · rcases b with ⟨rfl, _⟩ | ⟨t', x', rfl, b1, b2, _⟩
    · rfl
    · have := a1 _ _ b1
      omega
  · rcases b with ⟨rfl, b1⟩ | ⟨t', x', rfl, b1, b2, b3⟩
    · have := b1 _ _ a1
      omega
    · have h1 := a3 _ _ b1 b2
      have h2 := b3 _ _ a1 a2
      rw [show t = t' by omega]
/-- the days of posting that are found -/
def postSel (p day hs : Nat) (z : Nat × Nat × Nat) : Option Int := if z.1 = hs ∧ 0 ≤ post p day z.2.1 z.2.2 then some (post p day z.2.1 z.2.2) else none
theorem posts_spec {p h hs g day : Nat} {os : List Od} (ok : NetOk p h os) (hh : hs < h) :
    (∀ m ∈ (toGs p h os g).filterMap (postSel p day hs), ∃ t a : Nat, m = t ∧ dst p h os (hs, t) = some (g, a) ∧ a ≤ day) ∧
    ∀ t a, dst p h os (hs, t) = some (g, a) → a ≤ day → ∃ m ∈ (toGs p h os g).filterMap (postSel p day hs), (t : Int) ≤ m := by
  have hp := ok.p1
  refine ⟨fun m hm => ?_, fun t a e ha => ?_⟩
  · obtain ⟨z, hz, e⟩ := List.mem_filterMap.mp hm
    obtain ⟨h1, h2, h3⟩ := mem_toGs.mp hz
    unfold postSel at e
    by_cases c : z.1 = hs ∧ 0 ≤ post p day z.2.1 z.2.2
    · rw [if_pos c] at e
      obtain rfl := Option.some.inj e
      obtain ⟨b1, ⟨k, b2⟩, _⟩ := post_spec (p := p) (day := day) (d := z.2.1) (n := z.2.2) hp
      generalize post p day z.2.1 z.2.2 = m at c b1 b2
      obtain ⟨t, rfl⟩ : ∃ t : Nat, m = t := ⟨m.toNat, by omega⟩
      have ht : t % p = z.2.1 := by
        have e1 : ((t : Int)) % p = z.2.1 := by
          rw [b2, Int.add_mul_emod_self_left]
          exact Int.emod_eq_of_lt (by omega) (by omega)
        omega
      refine ⟨t, t + z.2.2, rfl, dst_of_way ok hh (by rw [← c.1]; exact h3) ht, by omega⟩
    · rw [if_neg c] at e
      cases e
  · obtain ⟨e1, e2⟩ := way_of_dst ok hh e
    have hz : (hs, t % p, a - t) ∈ toGs p h os g := mem_toGs.mpr ⟨hh, Nat.mod_lt _ hp, e1⟩
    obtain ⟨b1, b2, b3⟩ := post_spec (p := p) (day := day) (d := t % p) (n := a - t) hp
    have h1 := b3 t (by omega) ⟨((t / p : Nat) : Int), by
      have := Nat.mod_add_div t p
      have e3 : ((t % p + p * (t / p) : Nat) : Int) = t := by rw [this]
      rw [Int.natCast_add, Int.natCast_mul] at e3
      exact e3.symm⟩
    refine ⟨post p day (t % p) (a - t), List.mem_filterMap.mpr ⟨_, hz, ?_⟩, h1⟩
    show (if _ then _ else _) = _
    rw [if_pos ⟨rfl, by show 0 ≤ post p day (t % p) (a - t); omega⟩]
/-- the stops at which letters of a day are posted -/
def sendSel (p day : Nat) (z : Nat × Nat × Nat) : Option (Nat × Nat) := if z.2.2 ≤ day ∧ (day - z.2.2) % p = z.2.1 then some (z.1, day - z.2.2) else none
theorem sends_mem {p h g day : Nat} {os : List Od} (ok : NetOk p h os) {s : Nat × Nat} : s ∈ (toGs p h os g).filterMap (sendSel p day) ↔ s.1 < h ∧ dst p h os s = some (g, day) := by
  rw [List.mem_filterMap]
  constructor
  · rintro ⟨z, hz, e⟩
    obtain ⟨h1, h2, h3⟩ := mem_toGs.mp hz
    unfold sendSel at e
    by_cases c : z.2.2 ≤ day ∧ (day - z.2.2) % p = z.2.1
    · rw [if_pos c] at e
      obtain rfl := Option.some.inj e
      refine ⟨h1, ?_⟩
      have := dst_of_way ok h1 h3 c.2
      rw [this]
      congr 2
      omega
    · rw [if_neg c] at e
      cases e
  · rintro ⟨h1, e⟩
    obtain ⟨e1, e2⟩ := way_of_dst ok (hs := s.1) (t := s.2) h1 e
    refine ⟨(s.1, s.2 % p, day - s.2), mem_toGs.mpr ⟨h1, Nat.mod_lt _ ok.p1, e1⟩, ?_⟩
    unfold sendSel
    have e3 : day - (day - s.2) = s.2 := by omega
    show (if day - s.2 ≤ day ∧ (day - (day - s.2)) % p = s.2 % p then some (s.1, day - (day - s.2)) else none) = _
    rw [if_pos ⟨by omega, by rw [e3]⟩, e3]
theorem sends_nd {p h g day : Nat} {os : List Od} : ((toGs p h os g).filterMap (sendSel p day)).Nodup := by
  unfold toGs
  rw [List.filterMap_filterMap]
  refine List.Pairwise.filterMap _ ?_ lets_pw
  intro s s' lt b hb b' hb' e
  have key : ∀ {s b : Nat × Nat}, (toG p h os g s).bind (sendSel p day) = some b → s.1 = b.1 ∧ s.2 = b.2 % p := by
    intro s b hb
    obtain ⟨z, h1, h2⟩ := Option.bind_eq_some_iff.mp hb
    obtain ⟨_, h3⟩ := toG_some.mp h1
    unfold sendSel at h2
    by_cases c : z.2.2 ≤ day ∧ (day - z.2.2) % p = z.2.1
    · rw [if_pos c] at h2
      obtain rfl := Option.some.inj h2
      refine ⟨(congrArg Prod.fst h3).symm, ?_⟩
      show s.2 = (day - z.2.2) % p
      rw [c.2]
      exact (congrArg (fun z : Nat × Nat × Nat => z.2.1) h3).symm
    · rw [if_neg c] at h2
      cases h2
  have k1 := key hb
  have k2 := key hb'
  rw [← e] at k2
  have i1 := ltS_iff.mp lt
  omega
/-- in strict order, with these members: there is one such list -/
theorem sorted_uniq {l l' : List (Nat × Nat)} (h : l.Pairwise fun a b => ltS a b = true) (h' : l'.Pairwise fun a b => ltS a b = true) (e : ∀ s, s ∈ l ↔ s ∈ l') : l = l' := by
  have irr : ∀ s : Nat × Nat, ltS s s = false := fun s => ltS_no.mpr (by omega)
  have nd : ∀ {l : List (Nat × Nat)}, l.Pairwise (fun a b => ltS a b = true) → l.Nodup := fun h => List.Pairwise.imp (fun {a b} q e => by
    rw [e, irr] at q
    cases q) h
  have hp : l.Perm l' := (List.perm_ext_iff_of_nodup (nd h) (nd h')).mpr e
  refine List.Perm.eq_of_pairwise (le := fun a b => ltS a b = true) (fun a b _ _ h1 h2 => ?_) h h' hp
  have i1 := ltS_iff.mp h1
  have i2 := ltS_iff.mp h2
  omega
/-! numbers of deliveries -/
/-- whether a letter comes to a goal -/
def comes (p h : Nat) (os : List Od) (g : Nat) (s : Nat × Nat) : Bool := decide ((dst p h os s).map Prod.fst = some g)
def cntTo (p h : Nat) (os : List Od) (hs g n : Nat) : Nat := ((List.range n).filter fun t => comes p h os g (hs, t)).length
theorem comes_plc {p h g : Nat} {os : List Od} {s : Nat × Nat} (ok : NetOk p h os) (hh : s.1 < h) : comes p h os g (plc p s) = comes p h os g s := by
  unfold comes
  congr 2
  rw [dst_plc ok hh, Option.map_map]
  rfl
theorem comes_way {p h g : Nat} {os : List Od} {s : Nat × Nat} : comes p h os g s = decide ((wayOf p h os s).map Prod.fst = some g) := by
  unfold comes wayOf
  rw [Option.map_map]
  rfl
theorem cntTo_succ {p h hs g n : Nat} {os : List Od} : cntTo p h os hs g (n + 1) = cntTo p h os hs g n + if comes p h os g (hs, n) = true then 1 else 0 := by
  unfold cntTo
  rw [filter_range_succ', List.length_append]
  congr 1
  split <;> rfl
/-- the days of the period on which letters from a house come to the goal -/
def dsOf (p h : Nat) (os : List Od) (hs g : Nat) : List Nat := (lets p h).filterMap fun s => if s.1 = hs ∧ comes p h os g s = true then some s.2 else none
theorem mem_dsOf {p h hs g d : Nat} {os : List Od} : d ∈ dsOf p h os hs g ↔ hs < h ∧ d < p ∧ comes p h os g (hs, d) = true := by
  unfold dsOf
  rw [List.mem_filterMap]
  constructor
  · rintro ⟨s, hs1, e⟩
    have h3 := mem_lets.mp hs1
    by_cases c : s.1 = hs ∧ comes p h os g s = true
    · rw [if_pos c] at e
      obtain rfl := Option.some.inj e
      rw [← c.1]
      exact ⟨h3.1, h3.2, c.2⟩
    · rw [if_neg c] at e
      cases e
  · rintro ⟨h1, h2, h3⟩
    exact ⟨(hs, d), mem_lets.mpr ⟨h1, h2⟩, by rw [if_pos ⟨rfl, h3⟩]⟩
theorem dsOf_nd {p h hs g : Nat} {os : List Od} : (dsOf p h os hs g).Nodup := by
  refine List.Pairwise.filterMap _ ?_ lets_pw
  intro s s' lt b hb b' hb' e
  have key : ∀ {s : Nat × Nat} {b : Nat}, (if s.1 = hs ∧ comes p h os g s = true then some s.2 else none) = some b → s = (hs, b) := by
    intro s b hb
    by_cases c : s.1 = hs ∧ comes p h os g s = true
    · rw [if_pos c] at hb
      obtain rfl := Option.some.inj hb
      exact Prod.ext c.1 rfl
    · rw [if_neg c] at hb
      cases hb
  have k1 := key hb
  have k2 := key hb'
  have i1 := ltS_iff.mp lt
  rw [k1, k2, e] at i1
  omega
def cdays (p d : Nat) (l : Int) : Int := (l - d).fdiv p + 1
theorem cdays_neg {p d : Nat} (hd : d < p) : cdays p d (-1) = 0 := by
  unfold cdays
  rw [Int.fdiv_eq_ediv_of_nonneg _ (by omega)]
  have : (-1 - (d : Int)) / p = -1 := by
    rw [Int.ediv_eq_iff_of_pos (by omega)]
    omega
  omega
theorem cdays_step {p d n : Nat} (hd : d < p) : cdays p d (n : Int) = cdays p d ((n : Int) - 1) + if n % p = d then 1 else 0 := by
  unfold cdays
  have hp : (0 : Int) < p := by omega
  rw [Int.fdiv_eq_ediv_of_nonneg _ (by omega), Int.fdiv_eq_ediv_of_nonneg _ (by omega)]
  have hn : ((n % p : Nat) : Int) = (n : Int) % p := Int.natCast_emod n p
  have hr := Int.mul_ediv_add_emod (n : Int) p
  have hlt := Int.emod_lt_of_pos (n : Int) hp
  have h0 := Int.emod_nonneg (n : Int) (Int.ne_of_gt hp)
  have key : ∀ (x q : Int), p * q ≤ x → x < p * q + p → x / p = q := fun x q a b => by
    rw [Int.ediv_eq_iff_of_pos hp]
    rw [Int.mul_comm]
    omega
  by_cases c : n % p = d
  · rw [if_pos c]
    have c' : (n : Int) % p = d := by omega
    rw [key ((n : Int) - d) ((n : Int) / p) (by omega) (by omega), key ((n : Int) - 1 - d) ((n : Int) / p - 1) (by rw [Int.mul_sub, Int.mul_one]; omega) (by rw [Int.mul_sub, Int.mul_one]; omega)]
    omega
  · rw [if_neg c]
    have c' : (n : Int) % p ≠ d := by omega
    by_cases lt : (n : Int) % p < d
    · rw [key ((n : Int) - d) ((n : Int) / p - 1) (by rw [Int.mul_sub, Int.mul_one]; omega) (by rw [Int.mul_sub, Int.mul_one]; omega), key ((n : Int) - 1 - d) ((n : Int) / p - 1) (by rw [Int.mul_sub, Int.mul_one]; omega) (by rw [Int.mul_sub, Int.mul_one]; omega)]
      omega
    · rw [key ((n : Int) - d) ((n : Int) / p) (by omega) (by omega), key ((n : Int) - 1 - d) ((n : Int) / p) (by omega) (by omega)]
      omega
theorem sum_ite {m : Nat} : ∀ {l : List Nat}, l.Nodup → (l.map fun d => if m = d then (1 : Int) else 0).sum = if m ∈ l then 1 else 0
  | [], _ => by simp
  | d :: l, nd => by
    rw [List.nodup_cons] at nd
    rw [List.map_cons, List.sum_cons, sum_ite nd.2]
    by_cases c : m = d
    · rw [if_pos c, if_neg (by rw [c]; exact nd.1), if_pos (by rw [c]; exact List.mem_cons_self)]
      rfl
    · rw [if_neg c]
      by_cases c2 : m ∈ l
      · rw [if_pos c2, if_pos (List.mem_cons_of_mem _ c2)]
        rfl
      · rw [if_neg c2, if_neg (fun z => (List.mem_cons.mp z).elim c c2)]
        rfl
theorem sum_add {f g : Nat → Int} : ∀ {l : List Nat}, (l.map fun d => f d + g d).sum = (l.map f).sum + (l.map g).sum
  | [] => rfl
  | d :: l => by
    rw [List.map_cons, List.map_cons, List.map_cons, List.sum_cons, List.sum_cons, List.sum_cons, sum_add]
    omega
theorem cnt_sum {p h hs g : Nat} {os : List Od} (ok : NetOk p h os) (hh : hs < h) : ∀ n : Nat, ((dsOf p h os hs g).map fun d => cdays p d ((n : Int) - 1)).sum = (cntTo p h os hs g n : Nat)
  | 0 => by
    have e : ((dsOf p h os hs g).map fun d => cdays p d (((0 : Nat) : Int) - 1)) = (dsOf p h os hs g).map fun _ => (0 : Int) := List.map_congr_left fun d hd => by
      show cdays p d (-1) = 0
      exact cdays_neg (mem_dsOf.mp hd).2.1
    rw [e]
    have : ∀ l : List Nat, (l.map fun _ => (0 : Int)).sum = 0 := fun l => by
      induction l with
      | nil => rfl
      | cons _ _ ih => rw [List.map_cons, List.sum_cons, ih]; rfl
    rw [this]
    rfl
  | n + 1 => by
    have e : ((dsOf p h os hs g).map fun d => cdays p d (((n + 1 : Nat) : Int) - 1)) = (dsOf p h os hs g).map fun d => cdays p d ((n : Int) - 1) + if n % p = d then 1 else 0 := List.map_congr_left fun d hd => by
      rw [← cdays_step (mem_dsOf.mp hd).2.1]
      congr 1
      omega
    rw [e, sum_add, cnt_sum ok hh n, sum_ite dsOf_nd, cntTo_succ, Int.natCast_add]
    congr 1
    have hp := ok.p1
    have iff : n % p ∈ dsOf p h os hs g ↔ comes p h os g (hs, n) = true := by
      rw [mem_dsOf, ← comes_plc ok (s := (hs, n)) hh]
      exact ⟨fun q => q.2.2, fun q => ⟨hh, Nat.mod_lt _ hp, q⟩⟩
    by_cases c : comes p h os g (hs, n) = true
    · rw [if_pos c, if_pos (iff.mpr c)]
      rfl
    · rw [if_neg c, if_neg (fun z => c (iff.mp z))]
      rfl
def cntSel (p hs : Nat) (a b : Int) (z : Nat × Nat × Nat) : Option Int := if z.1 = hs then some (cdays p z.2.1 b - cdays p z.2.1 a) else none
theorem counts_eq {p h hs g : Nat} {os : List Od} {a b : Int} : (toGs p h os g).filterMap (cntSel p hs a b) = (dsOf p h os hs g).map fun d => cdays p d b - cdays p d a := by
  unfold toGs dsOf
  rw [List.filterMap_filterMap, List.map_filterMap]
  congr 1
  funext s
  rw [comes_way]
  unfold toG
  cases e : wayOf p h os s with
  | none => simp
  | some w =>
    show ((if w.1 = g then some (s.1, s.2, w.2) else none).bind (cntSel p hs a b)) = _
    by_cases c : w.1 = g
    · rw [if_pos c]
      show cntSel p hs a b (s.1, s.2, w.2) = _
      unfold cntSel
      by_cases c2 : s.1 = hs <;> simp [c, c2]
    · rw [if_neg c]
      by_cases c2 : s.1 = hs <;> simp [c, c2]
theorem counts_sum {p h hs g first last : Nat} {os : List Od} (ok : NetOk p h os) (hh : hs < h) : ((toGs p h os g).filterMap (cntSel p hs ((first : Int) - 1) last)).sum = (cntTo p h os hs g (last + 1) : Nat) - (cntTo p h os hs g first : Nat) := by
  rw [counts_eq]
  have e1 := cnt_sum (g := g) ok hh (last + 1)
  have e2 := cnt_sum (g := g) ok hh first
  have e3 : ((dsOf p h os hs g).map fun d => cdays p d (last : Int) - cdays p d ((first : Int) - 1)).sum + ((dsOf p h os hs g).map fun d => cdays p d ((first : Int) - 1)).sum = ((dsOf p h os hs g).map fun d => cdays p d (((last + 1 : Nat) : Int) - 1)).sum := by
    rw [← sum_add]
    congr 2
    funext d
    rw [show (((last + 1 : Nat) : Int) - 1) = last by omega]
    omega
  omega
abbrev s_senders : Stmt := top 56
abbrev N_senders : List Str := ["net", "goal", "day", "found", "source", "start", "days", "posting"]
abbrev P_senders : List Str := ["net", "goal", "day"]
theorem sc_senders : FnScope N_senders P_senders (defScope s_senders) := ⟨rfl, rfl, rfl, by decide +kernel, rfl, by decide +kernel, by decide +kernel⟩
/-! ### the letters that are delivered on a day -/
section
open PySem.W (alike alikeAll dataLt AllAlike Sortable dataLe)
theorem plD_all_alike (l : List (Nat × Nat)) : AllAlike (l.map plD) := PySem.W.AllAlike.of fun a b => plD_alike a b
theorem plD_sortable (l : List (Nat × Nat)) : Sortable (l.map plD) := .inl fun d hd => by
  obtain ⟨s, _, rfl⟩ := List.mem_map.mp hd
  exact ⟨_, _, rfl⟩
theorem plLe (a b : Nat × Nat) : dataLe false plD a b = !ltS b a := by
  rw [PySem.W.dataLe_eq, ← dataLt_pl]
  rfl
theorem sort_pl {l : List (Nat × Nat)} (nd : l.Nodup) : (l.mergeSort (dataLe false plD)).Pairwise (fun a b => ltS a b = true) ∧ ∀ s, s ∈ l.mergeSort (dataLe false plD) ↔ s ∈ l := by
  have hp : (l.mergeSort (dataLe false plD)).Perm l := List.mergeSort_perm _ _
  refine ⟨?_, fun s => hp.mem_iff⟩
  have h1 : (l.mergeSort (dataLe false plD)).Pairwise fun a b => dataLe false plD a b = true := PySem.W.sort_pairwise (PySem.W.sortLe_total _ _ _) _
  have h2 : (l.mergeSort (dataLe false plD)).Nodup := hp.nodup_iff.mpr nd
  refine (List.Pairwise.and h1 h2).imp ?_
  rintro a b ⟨q, ne⟩
  rw [plLe] at q
  have i1 := ltS_no.mp (show ltS b a = false by simpa using q)
  refine ltS_iff.mpr ?_
  have : ¬ (a.1 = b.1 ∧ a.2 = b.2) := fun z => ne (Prod.ext z.1 z.2)
  omega
end
def spSenders (C : Addr) : Sp := fun vs H Q _ => ∃ (x t : Addr) (p h g day : Nat) (os : List Od) (F : List Addr), vs = [.ref x, .int g, .int day] ∧ NetAt C H x p h os t F ∧ NetOk p h os ∧ g < h ∧ day ≤ 1000000000000000000 ∧
  ∀ H' r ws l, Same H H' → H r = none → H' r = some (.lst ws) → Paired (StopAt H') ws l → l.Pairwise (fun a b => ltS a b = true) → (∀ s, s ∈ l ↔ s.1 < h ∧ dst p h os s = some (g, day)) → l.length ≤ 300 → Q (.ref r) H'
section
variable {P : Program} {w : World} {K : PySem.W.Frag} {mg : Str → Option Value} {base : Heap}
theorem ok_senders {f C : Addr} {fd : FuncData} (F : Fun K "senders" "senders" s_senders f fd) (T : NetT K C) (zs : mg "sorted" = none) (DL : Df P w K mg base "check_letter" 4 P_check_letter (spLetter C))
    (DW : Df P w K mg base "ways_to" 5 P_ways_to (spWaysTo C)) : FnOk P w K mg base CX0 6 f fd P_senders (spSenders C) := by
  obtain ⟨fL, fdL, gL, kL, bL, GL⟩ := DL
  obtain ⟨fW, fdW, gW, kW, bW, GW⟩ := DW
  refine F.ok sc_senders (fun vs H Q E h => ?_) (fun cdv A outer s H vs Q E hr h => ?_)
  · obtain ⟨x, t, p, h, g, day, os, F, rfl, _⟩ := h
    rfl
  · obtain ⟨x, t, p, h, g, day, os, F, rfl, Nt, nok, hg, hd, q⟩ := h
    have hu : (A.deeper (PyProof.Rows.envOfC "senders" (defScope s_senders) s.heap.objs.size f cdv)).units + 65 < cLine := by
      have := hr.un
      omega
    refine ⟨_, pss_cons (ps_expr (pe_call GL (hr.mono (by decide)) (by rfl) gL kL bL .nil pass0 (pa_cons (pv 0) (pa_cons (pv 1) (pa_cons (pv 2) pa_nil)))))
      (pss_cons (ps_set (i := 3) sc_senders.nd rfl (.inl rfl) (pe_lst pa_nil))
      (pss_cons (ps_for PassesOwn.never rfl (pi_list (pe_call GW hr (by rfl) gW kW bW .nil pass0 (pa_cons (pv 0) (pa_cons (pv 1) pa_nil))))
          (pg_tup (by rfl) (pgs_cons (pg_name (i := 4) sc_senders.nd rfl (.inl rfl)) (pgs_cons (pg_name (i := 5) sc_senders.nd rfl (.inl rfl)) (pgs_cons (pg_name (i := 6) sc_senders.nd rfl (.inl rfl)) pgs_nil))))
        (pss_cons (ps_set (i := 7) sc_senders.nd rfl (.inl rfl) (pe_op op_sub (pv 2) (pv 6)))
        (pss_one (ps_if (PW.pt (pw_and (pt_cmpR op_ge (pv 7) pe_int (nomark _)) (pw_and1 (pt_cmpR op_eq (pe_op op_modN (pv 7) (pe_fld (pv 0) rfl)) (pv 5) (nomark _)))))
          (pss_one (ps_expr (pe_bm PySem.F.plainAttrs_list PySem.F.slot_list_append PySem.F.type_list_append mt_append (pv 3) (pa_cons (pe_tup (pa_cons (pv 4) (pa_cons (pv 7) pa_nil))) pa_nil)))) pss_nil))))
      (pss_one (ps_ret (pe_callB (cr_sortedD plD hu) (by rfl) zs PyProof.Rows.boot_sorted (pa_cons (pv 3) pa_nil)))))), ?_⟩
    have p30 := nok.p30; have h10 := nok.h10; have hp := nok.p1
    have big : h * p ≤ 300 := Nat.mul_le_mul h10 p30
    refine ⟨_, rfl, _, rfl, _, rfl, x, t, p, h, g, day, os, F, rfl, Nt, hg, hd, ?_⟩
    refine ⟨Nat.zero_le _, fun fo nfo => ?_⟩
    have s1 := same_upd (o := HO.lst []) nfo
    refine ⟨_, rfl, _, rfl, x, t, p, h, g, os, F, rfl, Nt.same s1, nok, fun H1 r ws s2 nr hr1 hws => ?_⟩
    have hlen := hws.length
    have hfo1 : H1 fo = some (.lst []) := s2 _ _ upd_same
    have nrf : r ≠ fo := (ne_of_none (upd_same (H := H)) nr).symm
    have N1 := (Nt.same s1).same s2
    refine ⟨r, rfl, ⟨_, SqL.of hr1⟩, ?_⟩
    refine for_list (K := K) (a := r) (xs := ws) (fun i σ H' => (∃ x4 x5 x6 x7, σ = [some (.ref x), some (.int g), some (.int day), some (.ref fo), x4, x5, x6, x7]) ∧ But fo H1 H' ∧ ∃ us, H' fo = some (.lst us) ∧ Paired (StopAt H') us (((toGs p h os g).take i).filterMap (sendSel p day)))
      ⟨⟨_, _, _, _, rfl⟩, .refl, [], hfo1, .nil⟩ (fun i σ H' _ ⟨_, b', _⟩ => SqL.of (b' r _ nrf hr1)) ?_ ?_
    · rintro i v σ H3 hi ⟨⟨x4, x5, x6, x7, rfl⟩, b3, us, hfo3, hus⟩
      have lt : i < (toGs p h os g).length := by
        rw [← hlen]
        exact (List.getElem?_eq_some_iff.mp hi).1
      have ei := List.getElem?_eq_getElem lt
      obtain ⟨v', hv', u, e0, hu2⟩ := Paired.get? (i := i) hws ei
      obtain rfl : v' = v := Option.some.inj (hv'.symm.trans hi)
      subst e0
      generalize (toGs p h os g)[i] = z at ei hu2
      have k3 : TupKeep H1 H3 := fun b xs e => b3 b _ (ne_of e hfo1 (by intro z; cases z)) e
      obtain ⟨dx, _, _, _, hx, _⟩ := id N1
      have nxf : x ≠ fo := ne_of hx hfo1 (by intro z; cases z)
      have hul : us.length < sizeLine := by
        rw [hus.length]
        have h1 := List.length_filterMap_le (sendSel p day) ((toGs p h os g).take i)
        rw [List.length_take] at h1
        have h2 := toGs_len (p := p) (h := h) (os := os) (g := g)
        exact small1000 (by omega)
      have none_end : sendSel p day z = none → (fun σ H' => (∃ x4 x5 x6 x7, σ = [some (.ref x), some (.int g), some (.int day), some (.ref fo), x4, x5, x6, x7]) ∧ But fo H1 H' ∧ ∃ us, H' fo = some (.lst us) ∧ Paired (StopAt H') us (((toGs p h os g).take (i + 1)).filterMap (sendSel p day)) : L2.St → Hp → Prop)
          [some (.ref x), some (.int g), some (.int day), some (.ref fo), some (.int z.1), some (.int z.2.1), some (.int z.2.2), some (.int ((day : Int) - (z.2.2 : Int)))] H3 := fun e => by
        refine ⟨⟨_, _, _, _, rfl⟩, b3, us, hfo3, ?_⟩
        rw [take_fm ei, e, Option.toList_none, List.append_nil]
        exact hus
      refine ⟨u, _, rfl, SqT.of (k3 _ _ hu2), rfl, _, _, rfl, _, _, rfl, _, _, rfl, rfl, ?_⟩
      refine ⟨_, rfl, _, rfl, _, _, rfl, rfl, ?_⟩
      refine ⟨_, rfl, _, _, rfl, rfl, _, rfl, ite2 (fun c => ?_) (fun c => ?_)⟩
      · have c1 : z.2.2 ≤ day := by
          have := of_decide_eq_true c
          omega
        have ed : ((day : Int) - (z.2.2 : Int)) = ((day - z.2.2 : Nat) : Int) := by omega
        refine ⟨_, rfl, _, rfl, x, C, dx, _, _, rfl, b3 x _ nxf hx, T.cl, T.nP, nf_pe, _, _, rfl, rfl, by omega, _, rfl, rfl, _, rfl, ?_⟩
        refine ite2 (fun c2 => ?_) (fun c2 => ?_)
        · have c3 : (day - z.2.2) % p = z.2.1 := by
            have := V.int.inj (of_decide_eq_true c2)
            rw [ed, fmod_nat] at this
            omega
          have e : sendSel p day z = some (z.1, day - z.2.2) := by
            unfold sendSel
            rw [if_pos ⟨c1, c3⟩]
          refine ⟨_, rfl, .inl ⟨rfl, _, SqL.of hfo3⟩, _, rfl, _, rfl, (by show 2 ≤ sizeLine; decide), fun y ny => ?_⟩
          have s5 := same_upd (o := HO.tup [.int z.1, .int ((day : Int) - (z.2.2 : Int))]) ny
          have hfo5 := s5 _ _ hfo3
          have nyf : y ≠ fo := (ne_of_none hfo3 ny).symm
          refine ⟨fo, _, _, rfl, rfl, hfo5, hul, ⟨_, _, _, _, rfl⟩, (b3.trans (.of s5)).trans .upd, _, upd_same, ?_⟩
          have k6 : TupKeep _ _ := (tk_of s5).trans (TupKeep.lst (o := HO.lst (us ++ [.ref y])) hfo5)
          rw [take_fm ei, e]
          exact Paired.snoc (StopsAt.keep k6 hus) ⟨y, rfl, by
            rw [upd_ne nyf, upd_same]
            show some (HO.tup [V.int z.1, V.int ((day : Int) - (z.2.2 : Int))]) = _
            rw [ed]⟩
        · refine none_end ?_
          unfold sendSel
          rw [if_neg fun y => c2 (decide_eq_true (by
            show V.int (((day : Int) - (z.2.2 : Int)).fmod (p : Int)) = _
            rw [ed, fmod_nat, y.2]))]
      · refine iteF (none_end ?_)
        unfold sendSel
        rw [if_neg fun y => c (decide_eq_true (by have := y.1; omega))]
    · rintro σ H3 ⟨⟨x4, x5, x6, x7, rfl⟩, b3, us, hfo3, hus⟩
      rw [hlen, List.take_of_length_le (Nat.le_refl _)] at hus
      have nd := sends_nd (p := p) (h := h) (g := g) (day := day) (os := os)
      have hmem := fun s => sends_mem (g := g) (day := day) nok (s := s)
      have hle : ((toGs p h os g).filterMap (sendSel p day)).length ≤ 300 := by
        have h1 := List.length_filterMap_le (sendSel p day) (toGs p h os g)
        have h2 := toGs_len (p := p) (h := h) (os := os) (g := g)
        omega
      generalize (toGs p h os g).filterMap (sendSel p day) = l at hus nd hmem hle
      obtain ⟨o1, o2⟩ := sort_pl nd
      refine ⟨_, rfl, fo, us, l, StopAt H3, rfl, SqL.of hfo3, hus, stops_dp hus, plD_all_alike l, plD_sortable l, fun b _ => ?_, fun ys r' hys nr' => ?_⟩
      · have e : (plD b).depth = 1 := by simp [plD, PyData.depth, PyData.depthAll]
        omega
      · have s6 := same_upd (o := HO.lst ys) nr'
        have sF : Same H (upd H3 r' (.lst ys)) := fun b o e => s6 _ _ (b3 b o (ne_of_none e nfo) (s2 _ _ (s1 _ _ e)))
        refine q _ r' ys _ sF ?_ upd_same (StopsAt.keep (tk_of s6) hys) o1 (fun s => (o2 s).trans (hmem s)) (by rw [List.length_mergeSort]; exact hle)
        cases e : H r' with
        | none => rfl
        | some o =>
          have := b3 r' o (ne_of_none e nfo) (s2 _ _ (s1 _ _ e))
          rw [nr'] at this
          cases this
end
/-! ### comprehensions that choose from a range, or from a list of numbers -/
theorem take_filter {α : Type} {f : α → Bool} {l : List α} {i : Nat} {q : α} (e : l[i]? = some q) : (l.take (i + 1)).filter f = (l.take i).filter f ++ (if f q = true then [q] else []) := by
  rw [List.take_add_one, e, List.filter_append]
  by_cases c : f q = true <;> simp [c]
theorem nints_len {l : List Nat} : (nints l).length = l.length := by
  unfold nints
  rw [List.length_map]
theorem nints_app {l m : List Nat} : nints (l ++ m) = nints l ++ nints m := by
  unfold nints
  rw [List.map_append]
theorem nints_V {l : List Nat} : nints l = (l.map fun (n : Nat) => (n : Int)).map V.int := by
  unfold nints
  rw [List.map_map]
  rfl
theorem nints_get {l : List Nat} {i : Nat} {v : V} (h : (nints l)[i]? = some v) : ∃ n, l[i]? = some n ∧ v = .int (n : Nat) := by
  unfold nints at h
  rw [List.getElem?_map, Option.map_eq_some_iff] at h
  obtain ⟨n, h1, h2⟩ := h
  exact ⟨n, h1, h2.symm⟩
theorem lc_rfilt {m : Int} {n v : Nat} {tt : TT} {σ : L2.St} {H1 : Hp} {D : Addr} {Qd : Hp → Prop} (f : Nat → Bool) (hm : m.toNat = n) (hn : n ≤ 1000)
    (hw : ∀ x, wipe ((wipe σ [v]).set v x) [v] = wipe σ [v]) (hv : ∀ x, ((wipe σ [v]).set v x)[v]? = some x)
    (ht : ∀ (i : Nat) l (Q : Bool → Hp → Prop), i < n → Q (f i) (upd H1 D (.lst l)) → tt ((wipe σ [v]).set v (some (.int (i : Nat)))) (upd H1 D (.lst l)) Q)
    (hd : Qd (upd H1 D (.lst (nints ((List.range n).filter f))))) :
    ∃ W : Nat → Nat → Hp → Prop, (∃ k, W 0 k (upd H1 D (.lst []))) ∧ ∀ i k H, W i k H →
      ((Itr 0 m.toNat).stop i H ∧ Qd H) ∨ ((Itr 0 m.toNat).go i H ∧ ∃ Nx : Hp → Prop, (∀ H', Nx H' → ∃ k', k' < k ∧ W (i + 1) k' H') ∧ ∀ x H', (Itr 0 m.toNat).yld i H x H' → gName v x (wipe σ [v]) H' fun σ2 H2 => wipe σ2 [v] = wipe σ [v] ∧ tt σ2 H2 fun b H3 =>
        if b = true then tVar v σ2 H3 fun y H4 => ∃ acc, H4 D = some (.lst acc) ∧ acc.length < sizeLine ∧ Nx (upd H4 D (.lst (acc ++ [y]))) else Nx H3) := by
  subst hm
  refine lc_range (lo := 0) (n := m.toNat) (fun i H' => H' = upd H1 D (.lst (nints ((List.range i).filter f)))) rfl ?_ (fun H' e => by rw [e]; exact hd)
  rintro i H' hi rfl
  rw [show (0 : Int) + (i : Int) = (i : Nat) from Int.zero_add _]
  refine ⟨hw _, ht i _ _ hi ?_⟩
  rw [filter_range_succ']
  by_cases c : f i = true
  · rw [c, if_pos rfl, if_pos rfl]
    refine ⟨_, hv _, _, upd_same, ?_, ?_⟩
    · rw [nints_len]
      exact small1000 (Nat.le_trans (List.length_filter_le _ _) (by rw [List.length_range]; omega))
    · rw [upd_upd, nints_app]
      rfl
  · rw [Bool.eq_false_iff.mpr c, if_neg Bool.false_ne_true, if_neg Bool.false_ne_true, List.append_nil]
theorem lc_lfilt {K : PySem.W.Frag} {a : Addr} {l : List Nat} {v : Nat} {tt : TT} {σ : L2.St} {H1 : Hp} {D : Addr} {Qd : Hp → Prop} (f : Nat → Bool) (hn : l.length ≤ 1000) (ha : H1 a = some (.lst (nints l))) (naD : a ≠ D)
    (hw : ∀ x, wipe ((wipe σ [v]).set v x) [v] = wipe σ [v]) (hv : ∀ x, ((wipe σ [v]).set v x)[v]? = some x)
    (ht : ∀ (i k : Nat) us (Q : Bool → Hp → Prop), l[i]? = some k → Q (f k) (upd H1 D (.lst us)) → tt ((wipe σ [v]).set v (some (.int (k : Nat)))) (upd H1 D (.lst us)) Q)
    (hd : Qd (upd H1 D (.lst (nints (l.filter f))))) :
    ∃ W : Nat → Nat → Hp → Prop, (∃ k, W 0 k (upd H1 D (.lst []))) ∧ ∀ i k H, W i k H →
      ((Itl K a).stop i H ∧ Qd H) ∨ ((Itl K a).go i H ∧ ∃ Nx : Hp → Prop, (∀ H', Nx H' → ∃ k', k' < k ∧ W (i + 1) k' H') ∧ ∀ x H', (Itl K a).yld i H x H' → gName v x (wipe σ [v]) H' fun σ2 H2 => wipe σ2 [v] = wipe σ [v] ∧ tt σ2 H2 fun b H3 =>
        if b = true then tVar v σ2 H3 fun y H4 => ∃ acc, H4 D = some (.lst acc) ∧ acc.length < sizeLine ∧ Nx (upd H4 D (.lst (acc ++ [y]))) else Nx H3) := by
  refine lc_list (K := K) (a := a) (xs := nints l) (fun i H' => H' = upd H1 D (.lst (nints ((l.take i).filter f)))) rfl (fun i H' _ e => by rw [e]; exact SqL.of ((upd_ne naD).trans ha)) ?_ (fun H' e => by
    rw [e, nints_len, List.take_of_length_le (Nat.le_refl _)]
    exact hd)
  rintro i x H' hi rfl
  obtain ⟨k, hk, rfl⟩ := nints_get hi
  refine ⟨hw _, ht i k _ _ hk ?_⟩
  have il := (List.getElem?_eq_some_iff.mp hk).1
  rw [take_filter hk]
  by_cases c : f k = true
  · rw [c, if_pos rfl, if_pos rfl]
    refine ⟨_, hv _, _, upd_same, ?_, ?_⟩
    · rw [nints_len]
      exact small1000 (Nat.le_trans (List.length_filter_le _ _) (by rw [List.length_take]; omega))
    · rw [upd_upd, nints_app]
      rfl
  · rw [Bool.eq_false_iff.mpr c, if_neg Bool.false_ne_true, if_neg Bool.false_ne_true, List.append_nil]
theorem lc_rfiltS {m : Int} {n v : Nat} {tt : TT} {σ : L2.St} {H1 : Hp} {D : Addr} {Qd : Hp → Prop} (f : Nat → Bool) (hm : m.toNat = n) (hn : n ≤ 1000) (nD : H1 D = none)
    (hw : ∀ x, wipe ((wipe σ [v]).set v x) [v] = wipe σ [v]) (hv : ∀ x, ((wipe σ [v]).set v x)[v]? = some x)
    (ht : ∀ (i : Nat) H2 (Q : Bool → Hp → Prop), i < n → Same H1 H2 → (∀ H3, Same H2 H3 → Q (f i) H3) → tt ((wipe σ [v]).set v (some (.int (i : Nat)))) H2 Q)
    (hd : ∀ H', Same H1 H' → H' D = some (.lst (nints ((List.range n).filter f))) → Qd H') :
    ∃ W : Nat → Nat → Hp → Prop, (∃ k, W 0 k (upd H1 D (.lst []))) ∧ ∀ i k H, W i k H →
      ((Itr 0 m.toNat).stop i H ∧ Qd H) ∨ ((Itr 0 m.toNat).go i H ∧ ∃ Nx : Hp → Prop, (∀ H', Nx H' → ∃ k', k' < k ∧ W (i + 1) k' H') ∧ ∀ x H', (Itr 0 m.toNat).yld i H x H' → gName v x (wipe σ [v]) H' fun σ2 H2 => wipe σ2 [v] = wipe σ [v] ∧ tt σ2 H2 fun b H3 =>
        if b = true then tVar v σ2 H3 fun y H4 => ∃ acc, H4 D = some (.lst acc) ∧ acc.length < sizeLine ∧ Nx (upd H4 D (.lst (acc ++ [y]))) else Nx H3) := by
  subst hm
  refine lc_range (lo := 0) (n := m.toNat) (fun i H' => Same H1 H' ∧ H' D = some (.lst (nints ((List.range i).filter f)))) ⟨same_upd nD, upd_same⟩ ?_ (fun H' e => hd H' e.1 e.2)
  rintro i H' hi ⟨s', hD⟩
  rw [show (0 : Int) + (i : Int) = (i : Nat) from Int.zero_add _]
  refine ⟨hw _, ht i _ _ hi s' fun H3 s3 => ?_⟩
  have hD3 := s3 _ _ hD
  rw [filter_range_succ']
  by_cases c : f i = true
  · rw [c, if_pos rfl, if_pos rfl]
    refine ⟨_, hv _, _, hD3, ?_, fun b o e => ?_, ?_⟩
    · rw [nints_len]
      exact small1000 (Nat.le_trans (List.length_filter_le _ _) (by rw [List.length_range]; omega))
    · rw [upd_ne (ne_of_none e nD)]
      exact s3 _ _ (s' _ _ e)
    · rw [upd_same, nints_app]
      rfl
  · rw [Bool.eq_false_iff.mpr c, if_neg Bool.false_ne_true, if_neg Bool.false_ne_true, List.append_nil]
    exact ⟨s'.trans s3, hD3⟩
/-! ### results and lists of stops as data -/
section
open PySem.W (alike alikeAll dataLt AllAlike Sortable dataLe)
theorem plD_depth (b : Nat × Nat) : (plD b).depth ≤ 60 := by
  have e : (plD b).depth = 1 := by simp [plD, PyData.depth, PyData.depthAll]
  omega
def optD : Option (Nat × Nat) → PyData
  | none => .none
  | some s => plD s
theorem opt_dp {K : PySem.W.Frag} {H : Hp} {v : V} {o : Option (Nat × Nat)} (h : OptStop H v o) : Dp K H v (optD o) := by
  cases o with
  | none =>
    obtain rfl : v = .non := h
    exact .non
  | some s => exact stop_dp h
theorem optD_shaped (o : Option (Nat × Nat)) : PySem.SeqAt.shaped (optD o) = true := by
  cases o with
  | none => rfl
  | some s => exact plD_shaped s
theorem optD_eqv (a b : Option (Nat × Nat)) : PyData.eqv (optD a) (optD b) = decide (a = b) := by
  cases a with
  | none =>
    cases b with
    | none => simp [optD, PyData.eqv]
    | some t => simp [optD, plD, PyData.eqv]
  | some s =>
    cases b with
    | none => simp [optD, plD, PyData.eqv]
    | some t =>
      show PyData.eqv (plD s) (plD t) = _
      rw [plD_eqv]
      by_cases c : s = t
      · rw [decide_eq_true c, decide_eq_true (by rw [c])]
      · rw [decide_eq_false c, decide_eq_false fun e => c (Option.some.inj e)]
theorem plA_eqv : ∀ a b : List (Nat × Nat), PyData.eqvAll (a.map plD) (b.map plD) = decide (a = b)
  | [], [] => by simp [PyData.eqvAll]
  | [], _ :: _ => by simp [PyData.eqvAll]
  | _ :: _, [] => by simp [PyData.eqvAll]
  | x :: xs, y :: ys => by
    rw [List.map_cons, List.map_cons, PySem.W.eqv_all_cons, plD_eqv, plA_eqv xs ys]
    by_cases h1 : x = y <;> by_cases h2 : xs = ys <;> simp [h1, h2]
theorem plL_eqv (a b : List (Nat × Nat)) : PyData.eqv (.list (a.map plD)) (.list (b.map plD)) = decide (a = b) := by
  rw [← plA_eqv]
  simp [PyData.eqv]
theorem pl_any (l : List (Nat × Nat)) (s : Nat × Nat) : ((l.map plD).any fun z => PyData.eqv z (plD s)) = decide (s ∈ l) := by
  induction l with
  | nil => simp
  | cons a l ih =>
    rw [List.map_cons, List.any_cons, ih, plD_eqv]
    by_cases h1 : a = s <;> by_cases h2 : s ∈ l <;> simp [h1, h2]
    exact fun e => h1 e.symm
end
theorem ints_empty (l : List Nat) : (!PyData.eqv (.list ((l.map fun (n : Nat) => (n : Int)).map PyData.int)) (.list [])) = !l.isEmpty := by
  cases l <;> rfl
theorem ints_empty' (l : List Nat) : PyData.eqv (.list ((l.map fun (n : Nat) => (n : Int)).map PyData.int)) (.list []) = l.isEmpty := by
  cases l <;> rfl
theorem dec_le {a b : Nat} : decide ((a : Int) ≤ (b : Int)) = decide (a ≤ b) := by
  by_cases c : a ≤ b
  · rw [decide_eq_true c, decide_eq_true (by omega)]
  · rw [decide_eq_false c, decide_eq_false (by omega)]
theorem dec_intV {a b : Nat} : decide (V.int (a : Int) = V.int (b : Int)) = decide (a = b) := by
  by_cases c : a = b
  · rw [decide_eq_true c, decide_eq_true (by rw [c])]
  · rw [decide_eq_false c, decide_eq_false fun y => c (by have := V.int.inj y; omega)]
def tNotN (t : TE) : TT := tTest (tOp (fun x y H Q => y = V.non ∧ Q (V.bl (!decide (x = .non))) H) t (tC .non))
theorem Paired.app {α β : Type} {F : α → β → Prop} : ∀ {a : List α} {b : List β} {c : List α} {d : List β}, Paired F a b → Paired F c d → Paired F (a ++ c) (b ++ d)
  | _, _, _, _, .nil, q => q
  | _, _, _, _, .cons r t, q => .cons r (Paired.app t q)
/-! ### letters that come to a goal: more -/
section
open PySem.W (alike alikeAll dataLt AllAlike Sortable dataLe)
theorem sort_self {l : List (Nat × Nat)} (pw : l.Pairwise fun a b => ltS a b = true) : l.mergeSort (dataLe false plD) = l := List.mergeSort_of_pairwise (pw.imp fun {a b} q => by
  rw [plLe]
  have i1 := ltS_iff.mp q
  rw [ltS_no.mpr (show ¬ (b.1 < a.1 ∨ (b.1 = a.1 ∧ b.2 < a.2)) by omega)]
  rfl)
end
theorem comes_iff {p h g : Nat} {os : List Od} {s : Nat × Nat} : comes p h os g s = true ↔ ∃ a, dst p h os s = some (g, a) := by
  unfold comes
  rw [decide_eq_true_iff]
  cases dst p h os s with
  | none => simp
  | some c =>
    obtain ⟨c1, c2⟩ := c
    simp
theorem comes_some {p h g : Nat} {os : List Od} {s c : Nat × Nat} (e : dst p h os s = some c) : comes p h os g s = decide (V.int (c.1 : Int) = V.int (g : Int)) := by
  unfold comes
  rw [e, dec_intV]
  show decide (some c.1 = some g) = _
  by_cases z : c.1 = g
  · rw [decide_eq_true (by rw [z]), decide_eq_true z]
  · rw [decide_eq_false (fun y => z (Option.some.inj y)), decide_eq_false z]
theorem comes_none {p h g : Nat} {os : List Od} {s : Nat × Nat} (e : dst p h os s = none) : comes p h os g s = false := by
  unfold comes
  rw [e]
  exact decide_eq_false fun y => by cases y
theorem comes_add {p h g hs n : Nat} {os : List Od} (ok : NetOk p h os) (hh : hs < h) : comes p h os g (hs, n + p) = comes p h os g (hs, n) := by
  rw [← comes_plc ok (s := (hs, n + p)) hh, ← comes_plc ok (s := (hs, n)) hh]
  show comes p h os g (hs, (n + p) % p) = comes p h os g (hs, n % p)
  rw [Nat.add_mod_right]
theorem cntTo_add_p {p h hs g : Nat} {os : List Od} (ok : NetOk p h os) (hh : hs < h) : ∀ n, cntTo p h os hs g (n + p) = cntTo p h os hs g n + cntTo p h os hs g p
  | 0 => by
    rw [Nat.zero_add]
    show _ = 0 + _
    rw [Nat.zero_add]
  | n + 1 => by
    rw [show n + 1 + p = (n + p) + 1 by omega, cntTo_succ, cntTo_succ, cntTo_add_p ok hh n, comes_add ok hh]
    omega
theorem cntTo_mul {p h hs g n : Nat} {os : List Od} (ok : NetOk p h os) (hh : hs < h) : ∀ j, cntTo p h os hs g (n + p * j) = cntTo p h os hs g n + j * cntTo p h os hs g p
  | 0 => by simp
  | j + 1 => by
    rw [show n + p * (j + 1) = n + p * j + p by rw [Nat.mul_succ]; omega, cntTo_add_p ok hh, cntTo_mul ok hh j, Nat.succ_mul]
    omega
theorem hop_days {p h : Nat} {os : List Od} {c s : Nat × Nat} (k : NetOk p h os) (e : hop p os c = some s) : s.2 ≤ c.2 + 9 := by
  unfold hop at e
  cases q : idx p os c.1 (c.2 : Int) with
  | none =>
    rw [q] at e
    cases e
  | some j =>
    simp only [q] at e
    have hj := idx_lt q
    rw [List.getElem?_eq_getElem hj] at e
    rw [← Option.some.inj e]
    have := (k.ok _ (List.getElem_mem hj)).e
    show c.2 + _ ≤ c.2 + 9
    omega
theorem stp_days {p h : Nat} {os : List Od} {st : Nat × Nat} (k : NetOk p h os) : ∀ (i : Nat) {s : Nat × Nat}, stp p os i st = some s → s.2 ≤ st.2 + 9 * i
  | 0, s, e => by
    cases e
    exact Nat.le_refl _
  | i + 1, s, e => by
    obtain ⟨c, hc, e⟩ := Option.bind_eq_some_iff.mp (show (stp p os i st).bind (hop p os) = some s from e)
    have h1 := stp_days k i hc
    have h2 := hop_days k e
    omega
theorem dst_days {p h : Nat} {os : List Od} {st c : Nat × Nat} (ok : NetOk p h os) (hh : st.1 < h) (e : dst p h os st = some c) : c.2 ≤ st.2 + 2700 := by
  have big : h * p ≤ 300 := Nat.mul_le_mul ok.h10 ok.p30
  unfold dst at e
  rcases folR_cases ok hh with ⟨l, e1, hne, hl, nd⟩ | ⟨m, s, b, t, k, e1, _⟩
  · rw [e1] at e
    have e : l.getLast? = some c := e
    rw [List.getLast?_eq_getElem?, hl] at e
    have hb := places_bound ok.p1 (fun s hs => by
      obtain ⟨j, hj⟩ := List.getElem?_of_mem hs
      exact pst_house ok hh j ((hl j).symm.trans hj)) nd
    have := stp_days ok _ e
    omega
  · rw [e1] at e
    cases e
theorem LastP.cases {p h hs g day : Nat} {os : List Od} {v : V} (ok : NetOk p h os) (hh : hs < h) (big : 3000 ≤ day) (L : LastP p h os hs g day v) :
    (v = .non ∧ (List.range p).filter (fun k => comes p h os g (hs, k)) = []) ∨ ∃ t a : Nat, v = .int t ∧ dst p h os (hs, t) = some (g, a) ∧ a ≤ day ∧ (∀ t' a', dst p h os (hs, t') = some (g, a') → a' ≤ day → t' ≤ t) ∧ (List.range p).filter (fun k => comes p h os g (hs, k)) ≠ [] := by
  have p30 := ok.p30
  rcases L with ⟨rfl, h1⟩ | ⟨t, a, rfl, h1, h2, h3⟩
  · refine .inl ⟨rfl, List.filter_eq_nil_iff.mpr fun k hk c => ?_⟩
    have hk := List.mem_range.mp hk
    obtain ⟨a, e⟩ := comes_iff.mp c
    have b1 := h1 k a e
    have b2 := dst_days ok (st := (hs, k)) hh e
    have b3 : a ≤ k + 2700 := b2
    omega
  · refine .inr ⟨t, a, rfl, h1, h2, h3, fun z => ?_⟩
    have c : comes p h os g (hs, t % p) = true := by
      have := comes_plc ok (g := g) (s := (hs, t)) hh
      rw [show plc p (hs, t) = (hs, t % p) from rfl] at this
      rw [this]
      exact comes_iff.mpr ⟨a, h1⟩
    have := List.filter_eq_nil_iff.mp z (t % p) (List.mem_range.mpr (Nat.mod_lt _ ok.p1))
    exact this c
/-! ### slices and sums of tuples -/
theorem slA_case {K : PySem.W.Frag} {t0 : Addr} {ts : List V} {lo hi : Option Int} {H : Hp} {Q : VK} (ht : H t0 = some (.tup ts)) (h : ∀ b H', Same H H' → H' b = some (.tup (cutV ts lo hi)) → Q (.ref b) H') : rSlA K (.ref t0) lo hi H Q := by
  refine ⟨t0, ts, rfl, SqT.of ht, fun hf => h t0 H (.refl H) ?_, fun hn p np => h p _ (same_upd np) upd_same⟩
  unfold cutV
  rw [hf.1, hf.2, List.drop_zero, Nat.sub_zero, List.take_of_length_le (Nat.le_refl _)]
  exact ht
theorem catA_case {K : PySem.W.Frag} {a b : Addr} {xs ys : List V} {H : Hp} {Q : VK} (ha : H a = some (.tup xs)) (hb : H b = some (.tup ys)) (hl : xs.length + ys.length ≤ sizeLine) (h : ∀ c H', Same H H' → H' c = some (.tup (xs ++ ys)) → Q (.ref c) H') : rCatA K (.ref a) (.ref b) H Q := by
  refine ⟨a, b, xs, ys, rfl, rfl, SqT.of ha, SqT.of hb, hl, fun e => ?_, fun _ e => ?_, fun _ _ p np => h p _ (same_upd np) upd_same⟩
  · subst e
    exact h b H (.refl H) hb
  · subst e
    rw [List.append_nil] at h
    exact h a H (.refl H) ha
/-- the orders but the k-th -/
def wo (os : List Od) (k : Nat) : List Od := os.take k ++ os.drop (k + 1)
theorem wo_ok {p h k : Nat} {os : List Od} (ok : NetOk p h os) : NetOk p h (wo os k) := by
  refine { ok with len := ?_, ok := fun o ho => ?_ }
  · unfold wo
    rw [List.length_append, List.length_take, List.length_drop]
    have := ok.len
    omega
  · rcases List.mem_append.mp ho with z | z
    · exact ok.ok o (List.mem_of_mem_take z)
    · exact ok.ok o (List.mem_of_mem_drop z)
abbrev s_without_order : Stmt := top 39
abbrev N_without_order : List Str := ["orders", "index"]
abbrev P_without_order : List Str := ["orders", "index"]
theorem sc_without_order : FnScope N_without_order P_without_order (defScope s_without_order) := ⟨rfl, rfl, rfl, by decide +kernel, rfl, by decide +kernel, by decide +kernel⟩
/-! ### a tuple without one of its values -/
def spWo : Sp := fun vs H Q _ => ∃ (t : Addr) (k : Nat) (ts : List V), vs = [.ref t, .int k] ∧ H t = some (.tup ts) ∧ ts.length ≤ 1000 ∧
  ∀ H' c, Same H H' → H' c = some (.tup (ts.take k ++ ts.drop (k + 1))) → Q (.ref c) H'
section
variable {P : Program} {w : World} {K : PySem.W.Frag} {mg : Str → Option Value} {base : Heap}
theorem ok_wo {f : Addr} {fd : FuncData} (F : Fun K "without_order" "without_order" s_without_order f fd) : FnOk P w K mg base CX0 1 f fd P_without_order spWo := by
  refine F.ok sc_without_order (fun vs H Q E h => ?_) (fun cdv A outer s H vs Q E hr h => ?_)
  · obtain ⟨t, k, ts, rfl, _⟩ := h
    rfl
  · obtain ⟨t, k, ts, rfl, ht, tl, q⟩ := h
    refine ⟨_, pss_one (ps_ret (pe_op op_catA (pe_slice sl_tupA (pv 0) po_none (po_some (pv 1))) (pe_slice sl_tupA (pv 0) (po_some (pe_op op_add (pv 1) pe_int)) po_none))), ?_⟩
    refine ⟨_, rfl, _, rfl, (k : Nat), rfl, ?_⟩
    refine slA_case ht fun b H1 s1 hb => ?_
    have ht1 := s1 _ _ ht
    refine ⟨_, rfl, _, rfl, _, _, rfl, rfl, (k : Int) + 1, rfl, ?_⟩
    unfold tNoPart
    refine slA_case (lo := some ((k : Int) + 1)) (hi := none) ht1 fun b2 H2 s2 hb2 => ?_
    rw [cut_to] at hb
    rw [show ((k : Int) + 1) = ((k + 1 : Nat) : Int) from rfl, cut_from] at hb2
    exact catA_case (s2 _ _ hb) hb2 (by rw [List.length_take, List.length_drop]; exact Nat.le_of_lt (small1000 (by omega))) fun c H3 s3 hc => q H3 c (s1.trans (s2.trans s3)) hc
end
abbrev s_with_order : Stmt := top 38
abbrev N_with_order : List Str := ["orders", "index", "order"]
abbrev P_with_order : List Str := ["orders", "index", "order"]
theorem sc_with_order : FnScope N_with_order P_with_order (defScope s_with_order) := ⟨rfl, rfl, rfl, by decide +kernel, rfl, by decide +kernel, by decide +kernel⟩
/-! ### a tuple with another value in place of one -/
def spWith : Sp := fun vs H Q _ => ∃ (t : Addr) (k : Nat) (ts : List V) (v : V), vs = [.ref t, .int k, v] ∧ H t = some (.tup ts) ∧ ts.length ≤ 900 ∧
  ∀ H' c, Same H H' → H' c = some (.tup (ts.take k ++ [v] ++ ts.drop (k + 1))) → Q (.ref c) H'
section
variable {P : Program} {w : World} {K : PySem.W.Frag} {mg : Str → Option Value} {base : Heap}
theorem ok_with {f : Addr} {fd : FuncData} (F : Fun K "with_order" "with_order" s_with_order f fd) : FnOk P w K mg base CX0 1 f fd P_with_order spWith := by
  refine F.ok sc_with_order (fun vs H Q E h => ?_) (fun cdv A outer s H vs Q E hr h => ?_)
  · obtain ⟨t, k, ts, v, rfl, _⟩ := h
    rfl
  · obtain ⟨t, k, ts, v, rfl, ht, tl, q⟩ := h
    refine ⟨_, pss_one (ps_ret (pe_op op_catA (pe_op op_catA (pe_slice sl_tupA (pv 0) po_none (po_some (pv 1))) (pe_tup (pa_cons (pv 2) pa_nil))) (pe_slice sl_tupA (pv 0) (po_some (pe_op op_add (pv 1) pe_int)) po_none))), ?_⟩
    refine ⟨_, rfl, _, rfl, (k : Nat), rfl, ?_⟩
    refine slA_case ht fun b H1 s1 hb => ?_
    rw [cut_to] at hb
    have ht1 := s1 _ _ ht
    refine ⟨_, rfl, (by show 1 ≤ sizeLine; decide), fun u nu => ?_⟩
    have su := same_upd (o := HO.tup [v]) nu
    refine catA_case (su _ _ hb) upd_same (by rw [List.length_take]; exact Nat.le_of_lt (small1000 (by show _ + 1 ≤ _; omega))) fun c H2 s2 hc => ?_
    have s12 := su.trans s2
    refine ⟨_, rfl, _, rfl, _, _, rfl, rfl, (k : Int) + 1, rfl, ?_⟩
    unfold tNoPart
    refine slA_case (lo := some ((k : Int) + 1)) (hi := none) (s12 _ _ ht1) fun b2 H3 s3 hb2 => ?_
    rw [show ((k : Int) + 1) = ((k + 1 : Nat) : Int) from rfl, cut_from] at hb2
    exact catA_case (s3 _ _ hc) hb2 (by rw [List.length_append, List.length_take, List.length_drop]; exact Nat.le_of_lt (small1000 (by show _ + 1 + _ ≤ _; omega))) fun c2 H4 s4 hc2 => q H4 c2 (s1.trans (s12.trans (s3.trans s4))) hc2
end
/-! ### slices and sums of lists -/
theorem slL_case {K : PySem.W.Frag} {a : Addr} {xs : List V} {lo hi : Option Int} {H : Hp} {Q : VK} (ha : H a = some (.lst xs)) (h : ∀ b H', Same H H' → H b = none → H' b = some (.lst (cutV xs lo hi)) → Q (.ref b) H') : rSlL K (.ref a) lo hi H Q :=
  ⟨a, xs, rfl, SqL.of ha, fun p np => h p _ (same_upd np) np upd_same⟩
theorem catL_case {a b : Addr} {xs ys : List V} {H : Hp} {Q : VK} (ha : H a = some (.lst xs)) (hb : H b = some (.lst ys)) (hl : xs.length + ys.length ≤ sizeLine) (h : ∀ c H', Same H H' → H c = none → H' c = some (.lst (xs ++ ys)) → Q (.ref c) H') : rCat (.ref a) (.ref b) H Q :=
  ⟨a, b, xs, ys, rfl, rfl, ha, hb, hl, fun p np => h p _ (same_upd np) np upd_same⟩
theorem Paired.setAt {α β : Type} {F : α → β → Prop} {x : α} {y : β} : ∀ {l1 : List α} {l2 : List β} (k : Nat), Paired F l1 l2 → F x y → Paired F (l1.set k x) (l2.set k y)
  | _, _, _, .nil, _ => .nil
  | _, _, 0, .cons _ t, q => .cons q t
  | _, _, k + 1, .cons r t, q => .cons r (Paired.setAt k t q)
/-! ### delivered by a day, on a day -/
def byDay (p h : Nat) (os : List Od) (day : Nat) (s : Nat × Nat) : Bool := match dst p h os s with
  | none => false
  | some c => decide (c.2 ≤ day)
def onDayB (p h : Nat) (os : List Od) (day : Nat) (s : Nat × Nat) : Bool := match dst p h os s with
  | none => false
  | some c => decide (c.2 = day)
theorem byDay_some {p h day : Nat} {os : List Od} {s c : Nat × Nat} (e : dst p h os s = some c) : byDay p h os day s = decide ((c.2 : Int) ≤ (day : Int)) := by
  unfold byDay
  rw [e, dec_le]
theorem onDay_some {p h day : Nat} {os : List Od} {s c : Nat × Nat} (e : dst p h os s = some c) : onDayB p h os day s = decide (V.int (c.2 : Int) = V.int (day : Int)) := by
  unfold onDayB
  rw [e, dec_intV]
theorem odK {p h s t f n e : Nat} (h1 : s < h) (h2 : t < h) (h3 : s ≠ t) (h4 : f < p) (h5 : 1 ≤ n) (h6 : n ≤ p) (h7 : 1 ≤ e) (h8 : e ≤ 9) : OdOk p h ⟨s, t, f, n, e⟩ := ⟨h1, h2, h3, h4, h5, h6, h7, h8⟩
abbrev s_count_chasing : Stmt := top 53
abbrev N_count_chasing : List Str := ["net"]
abbrev P_count_chasing : List Str := ["net"]
theorem sc_count_chasing : FnScope N_count_chasing P_count_chasing (defScope s_count_chasing) := ⟨rfl, rfl, rfl, by decide +kernel, rfl, by decide +kernel, by decide +kernel⟩
/-! ### how many letters chase -/
def chN (p h : Nat) (os : List Od) : Nat := ((lets p h).filter fun s => (dst p h os s).isNone).length
theorem optDs_plain : ∀ l : List (Option (Nat × Nat)), PyData.plainAll (l.map optD) = true
  | [] => by simp [PyData.plainAll]
  | none :: l => by simp [PyData.plainAll, PyData.plain, optD, optDs_plain l]
  | some s :: l => by simp [PyData.plainAll, PyData.plain, optD, plD, optDs_plain l]
theorem count_none (l : List (Option (Nat × Nat))) : ((l.map optD).countP fun z => PyData.eqv z .none) = l.countP (·.isNone) := by
  induction l with
  | nil => rfl
  | cons o l ih =>
    rw [List.map_cons, List.countP_cons, List.countP_cons, ih]
    congr 1
    rw [show (PyData.none) = optD none from rfl, optD_eqv]
    cases o <;> simp
def spChasing (C : Addr) : Sp := fun vs H Q _ => ∃ (x t : Addr) (p h : Nat) (os : List Od) (F : List Addr), vs = [.ref x] ∧ NetAt C H x p h os t F ∧ NetOk p h os ∧ ∀ H', Same H H' → Q (.int (chN p h os : Nat)) H'
section
variable {P : Program} {w : World} {K : PySem.W.Frag} {mg : Str → Option Value} {base : Heap}
theorem opts_dp {K : PySem.W.Frag} {H : Hp} {f : Nat × Nat → V} {g : Nat × Nat → Option (Nat × Nat)} : ∀ {ks : List (Nat × Nat)}, (∀ q ∈ ks, OptStop H (f q) (g q)) → DpAll K H (ks.map f) ((ks.map g).map optD)
  | [], _ => .nil
  | q :: ks, h => .cons (opt_dp (h q List.mem_cons_self)) (opts_dp fun r hr => h r (List.mem_cons_of_mem _ hr))
theorem lets_nd {p h : Nat} : (lets p h).Nodup := List.Pairwise.imp (fun {a b} q e => by
  have := ltS_iff.mp q
  rw [e] at this
  omega) lets_pw
theorem ok_chasing {f C : Addr} {fd : FuncData} (F : Fun K "count_chasing" "count_chasing" s_count_chasing f fd) (B : Blt mg) (DW : Df P w K mg base "find_ways" 4 P_find_ways (spFindWays C)) : FnOk P w K mg base CX0 5 f fd P_count_chasing (spChasing C) := by
  obtain ⟨fW, fdW, gW, kW, bW, GW⟩ := DW
  refine F.ok sc_count_chasing (fun vs H Q E h => ?_) (fun cdv A outer s H vs Q E hr h => ?_)
  · obtain ⟨x, t, p, h, os, F, rfl, _⟩ := h
    rfl
  · obtain ⟨x, t, p, h, os, F, rfl, Nt, nok, q⟩ := h
    have hu : (A.deeper (PyProof.Rows.envOfC "count_chasing" (defScope s_count_chasing) s.heap.objs.size f cdv)).units + 65 < cLine := by
      have := hr.un
      omega
    refine ⟨_, pss_one (ps_ret (pe_bm PySem.F.plainAttrs_list PySem.F.slot_list_count PySem.F.type_list_count (mt_countD hu) (pe_callTy (call_list_valuesT rfl) (by rfl) B.list (by decide +kernel) (pa_cons (pe_bm0 PySem.F.plainAttrs_dict PySem.F.slot_dict_values PySem.F.type_dict_values mt_valuesT (pe_call GW hr (by rfl) gW kW bW .nil pass0 (pa_cons (pv 0) pa_nil))) pa_nil)) (pa_cons pe_non pa_nil))), ?_⟩
    refine ⟨_, rfl, x, t, p, h, os, F, rfl, Nt, nok, fun H1 d ks f s1 nd W1 hks => ?_⟩
    refine ⟨.inr (.inr (.inl ⟨rfl, .inr ⟨_, W1.tab⟩⟩)), d, _, rfl, rfl, W1.tab, fun v nv => ?_⟩
    have s2 := same_upd (o := valsO v d) nv
    have W2 := W1.same s2
    have ev : (wkv p ks f).map (·.2) = ks.map f := by
      unfold wkv
      rw [List.map_map]
      rfl
    refine ⟨v, d, _, rfl, upd_same, W2.tab, ?_⟩
    rw [ev]
    intro l nl
    have s3 := same_upd (o := HO.lst (ks.map f)) nl
    have W3 := W2.same s3
    refine ⟨.inl ⟨rfl, _, SqL.of upd_same⟩, l, _, .non, .none, _, rfl, rfl, SqL.of upd_same, opts_dp W3.ways, .non, optDs_plain _, rfl, by decide, ?_⟩
    rw [count_none, List.countP_map]
    have perm : ks.Perm (lets p h) := (List.perm_ext_iff_of_nodup W1.nd lets_nd).mpr hks
    rw [perm.countP_eq, List.countP_eq_length_filter]
    have e : ((lets p h).filter ((fun (o : Option (Nat × Nat)) => o.isNone) ∘ wayOf p h os)) = (lets p h).filter fun s => (dst p h os s).isNone := by
      congr 1
      funext s
      show (wayOf p h os s).isNone = _
      unfold wayOf
      cases dst p h os s <;> rfl
    rw [e]
    exact q _ (s1.trans (s2.trans s3))
end
abbrev s_without : Stmt := top 54
abbrev N_without : List Str := ["net", "index"]
abbrev P_without : List Str := ["net", "index"]
theorem sc_without : FnScope N_without P_without (defScope s_without) := ⟨rfl, rfl, rfl, by decide +kernel, rfl, by decide +kernel, by decide +kernel⟩
abbrev s_harmful_orders : Stmt := top 52
abbrev N_harmful_orders : List Str := ["net", "present", "index"]
abbrev P_harmful_orders : List Str := ["net"]
theorem sc_harmful_orders : FnScope N_harmful_orders P_harmful_orders (defScope s_harmful_orders) := ⟨rfl, rfl, rfl, by decide +kernel, rfl, by decide +kernel, by decide +kernel⟩
/-! ### the orders that do harm -/
def spWithout (C : Addr) : Sp := fun vs H Q _ => ∃ (x t : Addr) (p h k : Nat) (os : List Od) (F : List Addr), vs = [.ref x, .int k] ∧ NetAt C H x p h os t F ∧ NetOk p h os ∧
  ∀ H' x' t' F', Same H H' → NetAt C H' x' p h (wo os k) t' F' → Q (.ref x') H'
def harmN (p h : Nat) (os : List Od) : List Nat := (List.range os.length).filter fun k => decide (chN p h (wo os k) < chN p h os)
def spHarm (C : Addr) : Sp := fun vs H Q _ => ∃ (x t : Addr) (p h : Nat) (os : List Od) (F : List Addr), vs = [.ref x] ∧ NetAt C H x p h os t F ∧ NetOk p h os ∧
  ∀ H' r, Same H H' → H r = none → H' r = some (.lst (nints (harmN p h os))) → Q (.ref r) H'
section
variable {P : Program} {w : World} {K : PySem.W.Frag} {mg : Str → Option Value} {base : Heap}
theorem ok_without {f C fI : Addr} {fd fdI : FuncData} (F : Fun K "without" "without" s_without f fd) (T : NetT K C) (M : Mk K C fI) (gC : mg "Net" = some (.ref C)) (GI : FnOk P w K mg base CX0 5 fI fdI P_Net_init (spInit C)) (bI : Binds K fdI P_Net_init [])
    (DO : Df P w K mg base "without_order" 1 P_without_order spWo) : FnOk P w K mg base CX0 7 f fd P_without (spWithout C) := by
  obtain ⟨fO, fdO, gO, kO, bO, GO⟩ := DO
  refine F.ok sc_without (fun vs H Q E h => ?_) (fun cdv A outer s H vs Q E hr h => ?_)
  · obtain ⟨x, t, p, h, k, os, F, rfl, _⟩ := h
    rfl
  · obtain ⟨x, t, p, h, k, os, F, rfl, Nt, ok, q⟩ := h
    have hr1 : Room 1 _ := hr.mono (by decide)
    refine ⟨_, pss_one (ps_ret (pe_make M GI hr (by rfl) gC bI .nil pass0 (pa_cons (pe_fld (pv 0) rfl) (pa_cons (pe_fld (pv 0) rfl) (pa_cons (pe_call GO hr1 (by rfl) gO kO bO .nil pass0 (pa_cons (pe_fld (pv 0) rfl) (pa_cons (pv 1) pa_nil))) pa_nil))))), ?_⟩
    obtain ⟨dx, fl, as, _, hx, ⟨ts, ht, hP⟩, _⟩ := id Nt
    have tl := hP.length
    have ol := ok.len
    refine ⟨_, rfl, x, C, dx, _, _, rfl, hx, T.cl, T.nP, nf_pe, _, rfl, x, C, dx, _, _, rfl, hx, T.cl, T.nH, nf_ho, ?_⟩
    refine ⟨_, rfl, x, C, dx, _, _, rfl, hx, T.cl, T.nO, nf_or, _, rfl, t, k, ts, rfl, ht, by omega, fun H3 c s123 hc => ?_⟩
    intro x' dx' nx ndx nex
    have s0 : Same H3 (upd (upd H3 dx' (.own x')) x' (.ins C dx' [])) := same_updN (same_upd ndx) nx
    refine ⟨x', dx', c, p, h, wo os k, H3, rfl, wo_ok ok, ?_, s0, nx, upd_same, fun H' F' s4 nF N => ⟨rfl, q H' x' c F' (s123.trans s4) N⟩⟩
    refine ⟨_, s0 _ _ hc, ?_⟩
    have hP3 := OrdsAt.keep (tk_of (s123.trans s0)) hP
    exact Paired.app (Paired.take hP3 k) (pair_drop hP3 (k + 1))
theorem ok_harm {f C : Addr} {fd : FuncData} (F : Fun K "harmful_orders" "harmful_orders" s_harmful_orders f fd) (B : Blt mg) (T : NetT K C) (DC : Df P w K mg base "count_chasing" 5 P_count_chasing (spChasing C)) (DW : Df P w K mg base "without" 7 P_without (spWithout C)) : FnOk P w K mg base CX0 8 f fd P_harmful_orders (spHarm C) := by
  obtain ⟨fC, fdC, gC, kC, bC, GC⟩ := DC
  obtain ⟨fW, fdW, gW, kW, bW, GW⟩ := DW
  refine F.ok sc_harmful_orders (fun vs H Q E h => ?_) (fun cdv A outer s H vs Q E hr h => ?_)
  · obtain ⟨x, t, p, h, os, F, rfl, _⟩ := h
    rfl
  · obtain ⟨x, t, p, h, os, F, rfl, Nt, ok, q⟩ := h
    have hr4 : Room 5 _ := hr.mono (by decide)
    refine ⟨_, pss_cons (ps_set (i := 1) sc_harmful_orders.nd rfl (.inr rfl) (pe_call GC hr4 (by rfl) gC kC bC .nil pass0 (pa_cons (pv 0) pa_nil)))
      (pss_one (ps_ret (pe_lc (own := [("index", 2)]) (g := gName 2) (by rfl) sc_harmful_orders.nd (pi_range1 rfl B.range (pa_cons (pe_callB call_len_seq (by rfl) B.len PySem.boot_len (pa_cons (pe_fld (pv 0) rfl) pa_nil)) pa_nil))
          (blkOk_by (N := N_harmful_orders) (sc := defScope s_harmful_orders) (by decide +kernel)) (fun _ _ _ _ _ => pg_name (i := 2) sc_harmful_orders.nd rfl (.inl rfl))
          (fun _ _ _ _ _ => pts_one (pt_cmpR op_lt (pe_call GC hr4 (by rfl) gC kC bC .nil pass0 (pa_cons (pe_call GW hr (by rfl) gW kW bW .nil pass0 (pa_cons (pv 0) (pa_cons (pv 2) pa_nil))) pa_nil)) (pv 1) (nomark _))) (fun _ _ _ _ _ => pv 2)))), ?_⟩
    have ol := ok.len
    refine ⟨_, rfl, x, t, p, h, os, F, rfl, Nt, ok, fun H1 s1 => ?_⟩
    have N1 := Nt.same s1
    obtain ⟨dx, fl, as, _, hx, ⟨ts, ht, hP⟩, _⟩ := id N1
    have tl := hP.length
    refine ⟨_, rfl, x, C, dx, _, _, rfl, hx, T.cl, T.nO, nf_or, t, ts, rfl, .inr (SqT.of ht), ((ts.length : Nat) : Int), rfl, by omega, by omega, fun D nD => ?_⟩
    refine lc_rfiltS (fun k => decide (chN p h (wo os k) < chN p h os)) (show ((ts.length : Nat) : Int).toNat = os.length by omega) (by omega) nD (fun _ => rfl) (fun _ => rfl) ?_ ?_
    · intro i H2 Q' hi s2 hQ
      refine ⟨_, rfl, _, rfl, x, t, p, h, i, os, F, rfl, N1.same s2, ok, fun H3 x' t' F' s3 N3 => ?_⟩
      refine ⟨x', t', p, h, wo os i, F', rfl, N3, wo_ok ok, fun H4 s4 => ?_⟩
      refine ⟨_, rfl, _, _, rfl, rfl, _, rfl, ?_⟩
      have e : decide ((chN p h (wo os i) : Int) < (chN p h os : Int)) = decide (chN p h (wo os i) < chN p h os) := by
        by_cases c : chN p h (wo os i) < chN p h os
        · rw [decide_eq_true c, decide_eq_true (by omega)]
        · rw [decide_eq_false c, decide_eq_false (by omega)]
      rw [e]
      exact hQ H4 (s3.trans s4)
    · intro H2 s2 hD
      exact q H2 D (s1.trans s2) (s1.free nD) hD
end
/-! ### how many letters chase, house by house -/
def chTo (p h : Nat) (os : List Od) (i : Nat) : Nat := (((List.range i).flatMap fun a => (List.range p).map fun d => (a, d)).filter fun s => (dst p h os s).isNone).length
theorem chTo_succ {p h i : Nat} {os : List Od} : chTo p h os (i + 1) = chTo p h os i + ((List.range p).map fun d => dst p h os (i, d)).countP (·.isNone) := by
  unfold chTo
  rw [lets_row, List.filter_append, List.length_append]
  congr 1
  rw [← List.countP_eq_length_filter, List.countP_map, List.countP_map]
  rfl
theorem chTo_le {p h i : Nat} {os : List Od} : chTo p h os i ≤ i * p := by
  unfold chTo
  refine Nat.le_trans (List.length_filter_le _ _) ?_
  have := rows_len (p := p) (i := i) (j := 0)
  rw [List.range_zero, List.map_nil, List.append_nil] at this
  omega
/-! ### words and numbers -/
def digB (w : Str) : Bool := Txt.isascii w && Txt.isdigit w
def numB (w : Str) : Bool := digB w && (decide (w = "0") || (decide (w.length ≤ 3) && !decide (w.cps.toList.head? = some 48)))
/-- a word, and the number that it is, if it is one -/
structure Wk (w : Str) (v : Option Nat) : Prop where
  num : numB w = v.isSome
  int : ∀ n, v = some n → PySem.intText? w = some (n : Int)
  len : w.length ≤ 640
/-! ### numbers as texts -/
def nT (n : Nat) : Str := Str.ofString (toString (n : Int))
def nTok (n : Nat) : Bool := numB (nT n) && decide (PySem.intText? (nT n) = some (n : Int)) && decide ((nT n).length ≤ 2) && (nT n).cps.all (fun c => decide (48 ≤ c ∧ c ≤ 57))
theorem nTok_all : (List.range 31).all nTok = true := by decide +kernel
theorem nT_ok {n : Nat} (h : n ≤ 30) : numB (nT n) = true ∧ PySem.intText? (nT n) = some (n : Int) ∧ (nT n).length ≤ 2 ∧ ∀ c ∈ (nT n).cps.toList, 48 ≤ c ∧ c ≤ 57 := by
  have h1 := List.all_eq_true.mp nTok_all n (List.mem_range.mpr (by omega))
  unfold nTok at h1
  rw [Bool.and_eq_true, Bool.and_eq_true, Bool.and_eq_true] at h1
  obtain ⟨⟨⟨a, b⟩, c⟩, d⟩ := h1
  refine ⟨a, of_decide_eq_true b, of_decide_eq_true c, fun x hx => ?_⟩
  have := Array.all_eq_true_iff_forall_mem.mp d x (Array.mem_toList_iff.mp hx)
  exact of_decide_eq_true this
/-! ### texts of nets: plain mathematics -/
theorem mem_joinL {S : List Nat} {x : Nat} : ∀ {parts : List (List Nat)}, x ∈ TL.joinL S parts → x ∈ S ∨ ∃ p ∈ parts, x ∈ p
  | [], h => by cases h
  | [p], h => .inr ⟨p, List.mem_singleton.mpr rfl, h⟩
  | p :: q :: r, h => by
    rcases List.mem_append.mp (show x ∈ p ++ (S ++ TL.joinL S (q :: r)) from h) with h | h
    · exact .inr ⟨p, List.mem_cons_self, h⟩
    · rcases List.mem_append.mp h with h | h
      · exact .inl h
      · rcases mem_joinL h with h | ⟨z, hz, h⟩
        · exact .inl h
        · exact .inr ⟨z, List.mem_cons_of_mem _ hz, h⟩
theorem mem_join {y : Str} {x : Nat} {parts : List Str} (h : x ∈ TL.tl (Txt.join y parts)) : x ∈ TL.tl y ∨ ∃ p ∈ parts, x ∈ TL.tl p := by
  rw [TL.join_eq, TL.tl_join] at h
  rcases mem_joinL h with h | ⟨z, hz, h⟩
  · exact .inl h
  · obtain ⟨p, hp, rfl⟩ := List.mem_map.mp hz
    exact .inr ⟨p, hp, h⟩
theorem len_joinL {S : List Nat} : ∀ parts : List (List Nat), (TL.joinL S parts).length ≤ (parts.map List.length).sum + parts.length * S.length
  | [] => Nat.zero_le _
  | [p] => by
    show p.length ≤ _
    simp
  | p :: q :: r => by
    have ih := len_joinL (S := S) (q :: r)
    show (p ++ (S ++ TL.joinL S (q :: r))).length ≤ _
    rw [List.length_append, List.length_append, List.map_cons, List.sum_cons, List.length_cons, Nat.succ_mul]
    omega
theorem len_join {y : Str} (parts : List Str) : (Txt.join y parts).length ≤ (parts.map (·.length)).sum + parts.length * y.length := by
  have h := len_joinL (S := TL.tl y) (parts.map TL.tl)
  rw [TL.len_tl, TL.join_eq, TL.tl_join, TL.len_tl y]
  rw [List.map_map, List.length_map] at h
  exact h
def wordsO (o : Od) : List Str := [nT o.s, nT o.t, nT o.f, nT o.n, nT o.e]
def lineNet (p h : Nat) : Str := Txt.join " " [("net" : Str), nT p, nT h]
def lineOrd (o : Od) : Str := Txt.join " " (("order" : Str) :: wordsO o)
def linesOf (p h : Nat) (os : List Od) : List Str := lineNet p h :: os.map lineOrd
def textOf (p h : Nat) (os : List Od) : Str := Txt.join "\n" (linesOf p h os)
/-- a word of digits or letters -/
def Plain (w : Str) : Prop := ∀ c ∈ TL.tl w, 33 ≤ c
theorem nT_plain {n : Nat} (h : n ≤ 30) : Plain (nT n) := fun c hc => by
  have := (nT_ok h).2.2.2 c hc
  omega
theorem net_plain : Plain "net" := by
  unfold Plain
  decide +kernel
theorem order_plain : Plain "order" := by
  unfold Plain
  decide +kernel
theorem od_le {p h : Nat} {os : List Od} {o : Od} (k : NetOk p h os) (ho : o ∈ os) : o.s ≤ 30 ∧ o.t ≤ 30 ∧ o.f ≤ 30 ∧ o.n ≤ 30 ∧ o.e ≤ 30 := by
  have a := k.ok o ho
  have := a.s; have := a.t; have := a.f; have := a.n; have := a.e; have := k.p30; have := k.h10
  omega
theorem wordsO_plain {p h : Nat} {os : List Od} {o : Od} (k : NetOk p h os) (ho : o ∈ os) : ∀ w ∈ wordsO o, Plain w := by
  obtain ⟨h1, h2, h3, h4, h5⟩ := od_le k ho
  intro w hw
  unfold wordsO at hw
  simp only [List.mem_cons, List.not_mem_nil, or_false] at hw
  rcases hw with rfl | rfl | rfl | rfl | rfl
  · exact nT_plain h1
  · exact nT_plain h2
  · exact nT_plain h3
  · exact nT_plain h4
  · exact nT_plain h5
theorem split_words {ws : List Str} (hne : ws ≠ []) (h : ∀ w ∈ ws, Plain w) : Txt.split (Txt.join " " ws) " " = ws :=
  TL.split_join (s := 32) (S := []) (by decide +kernel) (by decide +kernel) hne fun w hw hc => by
    have := h w hw 32 hc
    omega
theorem line_free {ws : List Str} (h : ∀ w ∈ ws, Plain w) : 10 ∉ TL.tl (Txt.join " " ws) := fun hc => by
  rcases mem_join hc with h1 | ⟨w, hw, h1⟩
  · have : TL.tl " " = [32] := by decide +kernel
    rw [this] at h1
    simp at h1
  · have := h w hw 10 h1
    omega
theorem split_lines {ls : List Str} (hne : ls ≠ []) (h : ∀ l ∈ ls, 10 ∉ TL.tl l) : Txt.split (Txt.join "\n" ls) "\n" = ls :=
  TL.split_join (s := 10) (S := []) (by decide +kernel) (by decide +kernel) hne h
theorem split_net {p h : Nat} (hp : p ≤ 30) (hh : h ≤ 30) : Txt.split (lineNet p h) " " = [("net" : Str), nT p, nT h] := split_words (by simp) fun w hw => by
  simp only [List.mem_cons, List.not_mem_nil, or_false] at hw
  rcases hw with rfl | rfl | rfl
  · exact net_plain
  · exact nT_plain hp
  · exact nT_plain hh
theorem split_ord {p h : Nat} {os : List Od} {o : Od} (k : NetOk p h os) (ho : o ∈ os) : Txt.split (lineOrd o) " " = ("order" : Str) :: wordsO o := split_words (by simp) fun w hw => by
  rcases List.mem_cons.mp hw with rfl | hw
  · exact order_plain
  · exact wordsO_plain k ho w hw
theorem split_text {p h : Nat} {os : List Od} (k : NetOk p h os) : Txt.split (textOf p h os) "\n" = linesOf p h os := split_lines (by unfold linesOf; simp) fun l hl => by
  have := k.p30; have := k.h10
  rcases List.mem_cons.mp hl with rfl | hl
  · refine line_free fun w hw => ?_
    simp only [List.mem_cons, List.not_mem_nil, or_false] at hw
    rcases hw with rfl | rfl | rfl
    · exact net_plain
    · exact nT_plain (by omega)
    · exact nT_plain (by omega)
  · obtain ⟨o, ho, rfl⟩ := List.mem_map.mp hl
    refine line_free fun w hw => ?_
    rcases List.mem_cons.mp hw with rfl | hw
    · exact order_plain
    · exact wordsO_plain k ho w hw
theorem len_net {p h : Nat} (hp : p ≤ 30) (hh : h ≤ 30) : (lineNet p h).length ≤ 20 := by
  refine Nat.le_trans (len_join _) ?_
  have h1 := (nT_ok hp).2.2.1
  have h2 := (nT_ok hh).2.2.1
  have h3 : ("net" : Str).length = 3 := by decide +kernel
  have h4 : (" " : Str).length = 1 := by decide +kernel
  simp [h3, h4]
  omega
theorem len_ord {p h : Nat} {os : List Od} {o : Od} (k : NetOk p h os) (ho : o ∈ os) : (lineOrd o).length ≤ 30 := by
  refine Nat.le_trans (len_join _) ?_
  obtain ⟨h1, h2, h3, h4, h5⟩ := od_le k ho
  have a1 := (nT_ok h1).2.2.1
  have a2 := (nT_ok h2).2.2.1
  have a3 := (nT_ok h3).2.2.1
  have a4 := (nT_ok h4).2.2.1
  have a5 := (nT_ok h5).2.2.1
  have a6 : ("order" : Str).length = 5 := by decide +kernel
  have a7 : (" " : Str).length = 1 := by decide +kernel
  unfold wordsO
  simp [a6, a7]
  omega
theorem lines_len {p h : Nat} {os : List Od} (k : NetOk p h os) : ∀ l ∈ linesOf p h os, l.length ≤ 30 := fun l hl => by
  have := k.p30; have := k.h10
  rcases List.mem_cons.mp hl with rfl | hl
  · exact Nat.le_trans (len_net (by omega) (by omega)) (by decide)
  · obtain ⟨o, ho, rfl⟩ := List.mem_map.mp hl
    exact len_ord k ho
theorem sum_le {l : List Nat} {m : Nat} (h : ∀ x ∈ l, x ≤ m) : l.sum ≤ l.length * m := by
  induction l with
  | nil => exact Nat.zero_le _
  | cons a l ih =>
    rw [List.sum_cons, List.length_cons, Nat.succ_mul]
    have := ih fun x hx => h x (List.mem_cons_of_mem _ hx)
    have := h a List.mem_cons_self
    omega
theorem lines_sum {p h : Nat} {os : List Od} (k : NetOk p h os) : ((linesOf p h os).map (·.length)).sum ≤ 630 := by
  refine Nat.le_trans (sum_le (m := 30) fun x hx => ?_) ?_
  · obtain ⟨l, hl, rfl⟩ := List.mem_map.mp hx
    exact lines_len k l hl
  · rw [List.length_map]
    show (os.map lineOrd).length.succ * 30 ≤ 630
    rw [List.length_map]
    have := k.len
    omega
theorem len_text {p h : Nat} {os : List Od} (k : NetOk p h os) : (textOf p h os).length ≤ 700 := by
  refine Nat.le_trans (len_join _) ?_
  have h1 := lines_sum k
  have h2 : ("\n" : Str).length = 1 := by decide +kernel
  have h3 : (linesOf p h os).length ≤ 21 := by
    show (os.map lineOrd).length.succ ≤ 21
    rw [List.length_map]
    have := k.len
    omega
  rw [h2]
  omega
theorem wk_nT {n : Nat} (h : n ≤ 30) : Wk (nT n) (some n) := ⟨(nT_ok h).1, fun m e => by
  cases e
  exact (nT_ok h).2.1, by have := (nT_ok h).2.2.1; omega⟩
/-- joined words, one behind the other -/
theorem join3 (a b c : Str) : Txt.join " " [a, b, c] = a ++ " " ++ b ++ " " ++ c := by
  rw [TL.join_eq]
  refine TL.ext_tl ?_
  rw [TL.tl_join]
  simp [TL.joinL, TL.tl_append]
theorem join6 (a b c d e f : Str) : Txt.join " " [a, b, c, d, e, f] = a ++ " " ++ b ++ " " ++ c ++ " " ++ d ++ " " ++ e ++ " " ++ f := by
  rw [TL.join_eq]
  refine TL.ext_tl ?_
  rw [TL.tl_join]
  simp [TL.joinL, TL.tl_append]
theorem cat_net : (Str.empty ++ "net " : Str) = "net" ++ " " := by decide +kernel
theorem cat_order : (Str.empty ++ "order " : Str) = "order" ++ " " := by decide +kernel
theorem cat_net' : ("net " : Str) = "net" ++ " " := by decide +kernel
abbrev s_Net_text : Stmt := inClass (top 35) 5
abbrev N_Net_text : List Str := ["self", "lines", "source", "target", "first", "days", "delay"]
abbrev P_Net_text : List Str := ["self"]
theorem sc_Net_text : FnScope N_Net_text P_Net_text (defScope s_Net_text) := ⟨rfl, rfl, rfl, by decide +kernel, rfl, by decide +kernel, by decide +kernel⟩
/-! ### the text of a net -/
section
variable {P : Program} {w : World} {K : PySem.W.Frag} {mg : Str → Option Value} {base : Heap}
/-- the text of a net -/
def spText (C : Addr) : Sp := fun vs H Q _ => ∃ (x t : Addr) (p h : Nat) (os : List Od) (F : List Addr), vs = [.ref x] ∧ NetAt C H x p h os t F ∧ NetOk p h os ∧ ∀ H', Same H H' → Q (.str (textOf p h os)) H'
theorem log_small {n : Nat} (h : n ≤ 30) : ((n : Int)).natAbs.log2 < 1920 := by
  have : ((n : Int)).natAbs = n := Int.natAbs_natCast n
  rw [this]
  by_cases c : n = 0
  · subst c; decide
  · have h1 : n.log2 < 5 := (Nat.log2_lt c).mpr (Nat.lt_of_le_of_lt h (by decide))
    omega
theorem len_app (a b : Str) : (a ++ b).length = a.length + b.length := by
  rw [TL.len_tl, TL.tl_append, List.length_append, ← TL.len_tl, ← TL.len_tl]
theorem len_sp : (" " : Str).length = 1 := by decide +kernel
theorem len_net4 : (Str.empty ++ ("net " : Str)).length = 4 := by decide +kernel
theorem len_ord6 : (Str.empty ++ ("order " : Str)).length = 6 := by decide +kernel
theorem ok_text {f C : Addr} {fd : FuncData} (F : Fun K "text" "Net.text" s_Net_text f fd) (T : NetT K C) : FnOk P w K mg base CX0 2 f fd P_Net_text (spText C) := by
  refine F.ok sc_Net_text (fun vs H Q E h => ?_) (fun cdv A outer s H vs Q E hr h => ?_)
  · obtain ⟨x, t, p, h, os, F, rfl, _⟩ := h
    rfl
  · obtain ⟨x, t, p, h, os, F, rfl, Nt, nok, q⟩ := h
    refine ⟨_, pss_cons (ps_set (i := 1) sc_Net_text.nd rfl (.inl rfl) (pe_lst (pa_cons (pe_joined (.cons pe_str (.cons (pe_fmt (pe_fld (pv 0) rfl)) (.cons pe_str (.cons (pe_fmt (pe_fld (pv 0) rfl)) .nil))))) pa_nil)))
      (pss_cons (ps_for PassesOwn.never rfl (pi_tup (pe_fld (pv 0) rfl)) (pg_tup (by rfl) (pgs_cons (pg_name (i := 2) sc_Net_text.nd rfl (.inl rfl)) (pgs_cons (pg_name (i := 3) sc_Net_text.nd rfl (.inl rfl)) (pgs_cons (pg_name (i := 4) sc_Net_text.nd rfl (.inl rfl)) (pgs_cons (pg_name (i := 5) sc_Net_text.nd rfl (.inl rfl)) (pgs_cons (pg_name (i := 6) sc_Net_text.nd rfl (.inl rfl)) pgs_nil))))))
        (pss_one (ps_expr (pe_bm PySem.F.plainAttrs_list PySem.F.slot_list_append PySem.F.type_list_append mt_append (pv 1) (pa_cons (pe_joined (.cons pe_str (.cons (pe_fmt (pv 2)) (.cons pe_str (.cons (pe_fmt (pv 3)) (.cons pe_str (.cons (pe_fmt (pv 4)) (.cons pe_str (.cons (pe_fmt (pv 5)) (.cons pe_str (.cons (pe_fmt (pv 6)) .nil))))))))))) pa_nil)))))
      (pss_one (ps_ret (pe_join pe_str (pv 1))))), ?_⟩
    obtain ⟨dx, fl, as, _, hx, ⟨ts, ht, hP⟩, _⟩ := id Nt
    have p30 := nok.p30; have h10 := nok.h10; have ol := nok.len
    have hp2 := (nT_ok p30).2.2.1
    have hh2 := (nT_ok (show h ≤ 30 by omega)).2.2.1
    refine ⟨_, rfl, by rw [len_net4, sizeLine_eq]; omega, ?_⟩
    refine ⟨_, rfl, x, C, dx, _, _, rfl, hx, T.cl, T.nP, nf_pe, .inr ⟨_, rfl, log_small p30, nT p, rfl, ?_, ?_⟩⟩
    · rw [len_app, len_net4, sizeLine_eq]
      omega
    refine ⟨_, rfl, ?_, ?_⟩
    · rw [len_app, len_app, len_net4, len_sp, sizeLine_eq]
      omega
    refine ⟨_, rfl, x, C, dx, _, _, rfl, hx, T.cl, T.nH, nf_ho, .inr ⟨_, rfl, log_small (show h ≤ 30 by omega), nT h, rfl, ?_, ?_⟩⟩
    · rw [len_app, len_app, len_app, len_net4, len_sp, sizeLine_eq]
      omega
    have e1 : (((Str.empty ++ "net " : Str) ++ nT p) ++ " ") ++ nT h = lineNet p h := by
      unfold lineNet
      rw [join3, cat_net]
    refine ⟨(by show 1 ≤ sizeLine; decide), fun L nL => ?_⟩
    rw [show (V.str ((((Str.empty ++ "net ") ++ nT p) ++ " ") ++ nT h)) = V.str (lineNet p h) by rw [e1]]
    have s1 := same_upd (o := HO.lst [.str (lineNet p h)]) nL
    refine ⟨_, rfl, x, C, dx, _, _, rfl, s1 _ _ hx, T.cl, T.nO, nf_or, t, rfl, ⟨_, SqT.of (s1 _ _ ht)⟩, ?_⟩
    refine for_tup (K := K) (a := t) (xs := ts) (fun i σ H' => (∃ x2 x3 x4 x5 x6, σ = [some (.ref x), some (.ref L), x2, x3, x4, x5, x6]) ∧ H' = upd H L (.lst ((lineNet p h :: (os.take i).map lineOrd).map V.str)))
      ⟨⟨_, _, _, _, _, rfl⟩, rfl⟩ (fun i σ H' _ ⟨_, e⟩ => by rw [e]; exact SqT.of (same_upd nL _ _ ht)) ?_ ?_
    · rintro i v σ H1 hi ⟨⟨x2, x3, x4, x5, x6, rfl⟩, rfl⟩
      have hl := hP.length
      have lt : i < os.length := by rw [← hl]; exact (List.getElem?_eq_some_iff.mp hi).1
      have ei := List.getElem?_eq_getElem lt
      obtain ⟨v', hv', u, ev, hu⟩ := Paired.get? (i := i) hP ei
      obtain rfl : v' = v := Option.some.inj (hv'.symm.trans hi)
      subst ev
      have hmem := List.mem_of_getElem? ei
      generalize os[i] = o at ei hu hmem
      obtain ⟨b1, b2, b3, b4, b5⟩ := od_le nok hmem
      have c1 := (nT_ok b1).2.2.1
      have c2 := (nT_ok b2).2.2.1
      have c3 := (nT_ok b3).2.2.1
      have c4 := (nT_ok b4).2.2.1
      have c5 := (nT_ok b5).2.2.1
      have sL := same_upd (o := HO.lst ((lineNet p h :: (os.take i).map lineOrd).map V.str)) nL
      refine ⟨u, _, rfl, SqT.of (sL _ _ hu), rfl, _, _, rfl, _, _, rfl, _, _, rfl, _, _, rfl, _, _, rfl, rfl, ?_⟩
      refine ⟨_, rfl, .inl ⟨rfl, _, SqL.of upd_same⟩, ?_⟩
      refine ⟨_, rfl, by rw [len_ord6, sizeLine_eq]; omega, _, rfl, .inr ⟨_, rfl, log_small b1, nT o.s, rfl, by rw [len_app, len_ord6, sizeLine_eq]; omega, _, rfl, by rw [len_app, len_app, len_ord6, len_sp, sizeLine_eq]; omega, ?_⟩⟩
      refine ⟨_, rfl, .inr ⟨_, rfl, log_small b2, nT o.t, rfl, by rw [len_app, len_app, len_app, len_ord6, len_sp, sizeLine_eq]; omega, _, rfl, by rw [len_app, len_app, len_app, len_app, len_ord6, len_sp, sizeLine_eq]; omega, ?_⟩⟩
      refine ⟨_, rfl, .inr ⟨_, rfl, log_small b3, nT o.f, rfl, by rw [len_app, len_app, len_app, len_app, len_app, len_ord6, len_sp, sizeLine_eq]; omega, _, rfl, by rw [len_app, len_app, len_app, len_app, len_app, len_app, len_ord6, len_sp, sizeLine_eq]; omega, ?_⟩⟩
      refine ⟨_, rfl, .inr ⟨_, rfl, log_small b4, nT o.n, rfl, by rw [len_app, len_app, len_app, len_app, len_app, len_app, len_app, len_ord6, len_sp, sizeLine_eq]; omega, _, rfl, by rw [len_app, len_app, len_app, len_app, len_app, len_app, len_app, len_app, len_ord6, len_sp, sizeLine_eq]; omega, ?_⟩⟩
      refine ⟨_, rfl, .inr ⟨_, rfl, log_small b5, nT o.e, rfl, by rw [len_app, len_app, len_app, len_app, len_app, len_app, len_app, len_app, len_app, len_ord6, len_sp, sizeLine_eq]; omega, ?_⟩⟩
      refine ⟨L, _, _, rfl, rfl, upd_same, ?_, ⟨_, _, _, _, _, rfl⟩, ?_⟩
      · rw [List.length_map, List.length_cons, List.length_map, List.length_take]
        exact small1000 (by omega)
      · rw [upd_upd, List.take_add_one, ei]
        have e2 : ((((((((((Str.empty ++ "order " : Str) ++ nT o.s) ++ " ") ++ nT o.t) ++ " ") ++ nT o.f) ++ " ") ++ nT o.n) ++ " ") ++ nT o.e) = lineOrd o := by
          unfold lineOrd wordsO
          rw [join6, cat_order]
        show upd H L (.lst (((lineNet p h :: (os.take i).map lineOrd).map V.str) ++ [V.str ((((((((((Str.empty ++ "order " : Str) ++ nT o.s) ++ " ") ++ nT o.t) ++ " ") ++ nT o.f) ++ " ") ++ nT o.n) ++ " ") ++ nT o.e)])) = _
        rw [e2, Option.toList_some, List.map_append, List.map_cons, List.map_cons, List.map_append]
        rfl
    · rintro σ H1 ⟨⟨x2, x3, x4, x5, x6, rfl⟩, rfl⟩
      rw [hP.length, List.take_length]
      refine ⟨⟨_, rfl⟩, _, rfl, "\n", L, linesOf p h os, rfl, rfl, .inl (SqL.of upd_same), ?_, q _ (same_upd nL)⟩
      have h1 := lines_sum nok
      have h2 : ("\n" : Str).length = 1 := by decide +kernel
      have h3 : (linesOf p h os).length ≤ 21 := by
        show (os.map lineOrd).length.succ ≤ 21
        rw [List.length_map]
        omega
      rw [h2]
      omega
end
abbrev s_result_on : Stmt := top 27
abbrev N_result_on : List Str := ["day", "way", "goal", "days"]
abbrev P_result_on : List Str := ["day", "way"]
theorem sc_result_on : FnScope N_result_on P_result_on (defScope s_result_on) := ⟨rfl, rfl, rfl, by decide +kernel, rfl, by decide +kernel, by decide +kernel⟩
/-! ### a result on a day -/
def spResOn : Sp := fun vs H Q _ => ∃ (day : Nat) (v : V) (o : Option (Nat × Nat)), vs = [.int day, v] ∧ OptStop H v o ∧ ∀ H' v', Same H H' → OptStop H' v' (o.map fun g => (g.1, day + g.2)) → Q v' H'
section
variable {P : Program} {w : World} {K : PySem.W.Frag} {mg : Str → Option Value} {base : Heap}
theorem ok_res_on {f : Addr} {fd : FuncData} (F : Fun K "result_on" "result_on" s_result_on f fd) : FnOk P w K mg base CX0 2 f fd P_result_on spResOn := by
  refine F.ok sc_result_on (fun vs H Q E h => ?_) (fun cdv A outer s H vs Q E hr h => ?_)
  · obtain ⟨day, v, o, rfl, _⟩ := h
    rfl
  · obtain ⟨day, v, o, rfl, hv, q⟩ := h
    refine ⟨_, pss_cons (ps_if (pt_cmpR op_isN (pv 1) pe_non (nomark _)) (pss_one (ps_ret pe_non)) pss_nil)
      (pss_cons (ps_asg (pv 1) (pg_tup (by rfl) (pgs_cons (pg_name (i := 2) sc_result_on.nd rfl (.inl rfl)) (pgs_cons (pg_name (i := 3) sc_result_on.nd rfl (.inl rfl)) pgs_nil))))
      (pss_one (ps_ret (pe_tup (pa_cons (pv 2) (pa_cons (pe_op op_add (pv 0) (pv 3)) pa_nil)))))), ?_⟩
    refine ⟨_, rfl, rfl, _, rfl, ?_⟩
    cases o with
    | none =>
      obtain rfl : v = .non := hv
      exact iteT (q H .non (.refl H) rfl)
    | some g =>
      obtain ⟨u, rfl, hu⟩ := hv
      refine iteF ⟨_, rfl, u, _, rfl, SqT.of hu, rfl, _, _, rfl, _, _, rfl, rfl, ?_⟩
      refine ⟨_, rfl, _, rfl, _, rfl, _, _, rfl, rfl, (by show 2 ≤ sizeLine; decide), fun y ny => q _ _ (same_upd ny) ⟨y, rfl, ?_⟩⟩
      rw [upd_same]
      show some (HO.tup [V.int g.1, V.int ((day : Int) + (g.2 : Int))]) = some (HO.tup [V.int g.1, V.int ((day + g.2 : Nat) : Int)])
      rw [Int.natCast_add]
end
/-! ### a net without idle orders and idle days: plain mathematics -/
theorem hop_i0 {p : Nat} {os : List Od} {c : Nat × Nat} (e : idx p os c.1 (c.2 : Int) = none) : hop p os c = none := by
  unfold hop
  rw [e]
theorem hop_i1 {p k : Nat} {os : List Od} {c : Nat × Nat} (e : idx p os c.1 (c.2 : Int) = some k) : ∃ o, os[k]? = some o ∧ hop p os c = some (o.t, c.2 + o.e) := by
  have hk := idx_lt e
  refine ⟨os[k], List.getElem?_eq_getElem hk, ?_⟩
  unfold hop
  rw [e]
  show (os[k]?).map _ = _
  rw [List.getElem?_eq_getElem hk]
  rfl
section
variable {p h : Nat} {os : List Od}
/-- how many days after its first one the k-th order is followed -/
def offs (p : Nat) (os : List Od) (k : Nat) (o : Od) : List Nat := (List.range o.n).filter fun j => decide (idx p os o.s ((o.f + j : Nat) : Int) = some k)
theorem mem_offs {k j : Nat} {o : Od} : j ∈ offs p os k o ↔ j < o.n ∧ idx p os o.s ((o.f + j : Nat) : Int) = some k := by
  unfold offs
  rw [List.mem_filter, List.mem_range, decide_eq_true_iff]
theorem offs_pw {k : Nat} {o : Od} : (offs p os k o).Pairwise (· < ·) := List.pairwise_lt_range.filter _
/-- a list of numbers, in strict order, between its first and its last -/
theorem pw_ends {l : List Nat} (pw : l.Pairwise (· < ·)) : l = [] ∨ ∃ a b, l.head? = some a ∧ l.getLast? = some b ∧ a ∈ l ∧ b ∈ l ∧ ∀ j ∈ l, a ≤ j ∧ j ≤ b := by
  cases e : l with
  | nil => exact .inl rfl
  | cons a r =>
    obtain ⟨l', b, e2⟩ : ∃ l' b, l = l' ++ [b] := ⟨_, _, (List.dropLast_concat_getLast (l := l) (by rw [e]; exact List.cons_ne_nil _ _)).symm⟩
    have hb : (a :: r).getLast? = some b := by rw [← e, e2, List.getLast?_concat]
    refine .inr ⟨a, b, rfl, hb, List.mem_cons_self, ?_, fun j hj => ⟨?_, ?_⟩⟩
    · rw [← e, e2]
      exact List.mem_append_right _ List.mem_cons_self
    · rw [e] at pw
      rcases List.mem_cons.mp hj with z | z
      · omega
      · exact Nat.le_of_lt ((List.pairwise_cons.mp pw).1 j z)
    · rw [e2] at pw
      rw [← e, e2] at hj
      rcases List.mem_append.mp hj with z | z
      · exact Nat.le_of_lt ((List.pairwise_append.mp pw).2.2 j z b List.mem_cons_self)
      · rw [List.mem_singleton.mp z]
        exact Nat.le_refl _
def simpO (p : Nat) (os : List Od) (k : Nat) (o : Od) : Option Od := match (offs p os k o).head?, (offs p os k o).getLast? with
  | some a, some b => some ⟨o.s, o.t, (o.f + a) % p, b - a + 1, o.e⟩
  | _, _ => none
theorem simpO_cases (k : Nat) (o : Od) : (offs p os k o = [] ∧ simpO p os k o = none) ∨ ∃ a b, (offs p os k o).head? = some a ∧ (offs p os k o).getLast? = some b ∧ simpO p os k o = some ⟨o.s, o.t, (o.f + a) % p, b - a + 1, o.e⟩ ∧ a ∈ offs p os k o ∧ b ∈ offs p os k o ∧ ∀ j ∈ offs p os k o, a ≤ j ∧ j ≤ b := by
  rcases pw_ends (offs_pw (p := p) (os := os) (k := k) (o := o)) with e | ⟨a, b, e1, e2, h1, h2, h3⟩
  · refine .inl ⟨e, ?_⟩
    unfold simpO
    rw [e]
    rfl
  · refine .inr ⟨a, b, e1, e2, ?_, h1, h2, h3⟩
    unfold simpO
    rw [e1, e2]
/-- the days on which the shorter order is valid -/
theorem win {o : Od} {a b : Nat} (hp : 0 < p) (ab : a ≤ b) (hb : b < p) (d : Int) : onDay p ⟨o.s, o.t, (o.f + a) % p, b - a + 1, o.e⟩ d = true ↔ (a : Int) ≤ (d - o.f) % p ∧ (d - o.f) % p ≤ b := by
  unfold onDay
  rw [decide_eq_true_iff]
  show (d - (((o.f + a) % p : Nat) : Int)) % (p : Int) < ((b - a + 1 : Nat) : Int) ↔ _
  have hp' : (0 : Int) < p := by omega
  have e1 : (d - (((o.f + a) % p : Nat) : Int)) % (p : Int) = ((d - o.f) % p - a) % p := by
    rw [Int.emod_sub_emod, Int.natCast_emod, Int.sub_emod d, Int.emod_emod_of_dvd _ (Int.dvd_refl _), ← Int.sub_emod]
    congr 1
    omega
  rw [e1]
  have r0 := Int.emod_nonneg (d - o.f) (Int.ne_of_gt hp')
  have r1 := Int.emod_lt_of_pos (d - o.f) hp'
  generalize (d - (o.f : Int)) % p = r at r0 r1
  by_cases c : (a : Int) ≤ r
  · rw [Int.emod_eq_of_lt (by omega) (by omega)]
    omega
  · have e2 : (r - a) % (p : Int) = r - a + p := by
      rw [← Int.add_emod_right]
      exact Int.emod_eq_of_lt (by omega) (by omega)
    rw [e2]
    omega
theorem idx_cong {s : Nat} {d d' : Int} (e : d % (p : Int) = d' % p) : idx p os s d = idx p os s d' := by rw [← idx_mod p os s d, e, idx_mod]
/-- K1: the shorter order is valid on fewer days -/
theorem simp_sub {k : Nat} {o o' : Od} {s : Nat} {d : Int} (ok : OdOk p h o) (e : simpO p os k o = some o') (ht : hit p s d o' = true) : hit p s d o = true := by
  have hp : 0 < p := by have := ok.f; omega
  rcases simpO_cases (p := p) (os := os) k o with ⟨_, e2⟩ | ⟨a, b, _, _, e2, ha, hb, hj⟩
  · rw [e2] at e
    cases e
  · rw [e2] at e
    obtain rfl := Option.some.inj e
    have hb1 := (mem_offs.mp hb).1
    have okn := ok.n
    unfold hit at ht ⊢
    rw [Bool.and_eq_true] at ht ⊢
    refine ⟨ht.1, ?_⟩
    have := (win (o := o) hp (hj b hb).1 (by omega) d).mp ht.2
    unfold onDay
    rw [decide_eq_true_iff]
    omega
/-- K2: on a day on which the order is followed, the shorter one is valid -/
theorem simp_hit {k : Nat} {o : Od} {s : Nat} {d : Int} (ok : OdOk p h o) (ek : os[k]? = some o) (e : idx p os s d = some k) : ∃ o', simpO p os k o = some o' ∧ hit p s d o' = true ∧ o'.s = o.s ∧ o'.t = o.t ∧ o'.e = o.e := by
  have hp : 0 < p := by have := ok.f; omega
  have hp' : (0 : Int) < p := by omega
  have ht : hit p s d o = true := by
    obtain ⟨h1, h2, _⟩ := List.findIdx?_eq_some_iff_getElem.mp (show os.findIdx? (hit p s d) = some k from e)
    rw [List.getElem?_eq_getElem h1] at ek
    rw [← Option.some.inj ek]
    exact h2
  unfold hit at ht
  rw [Bool.and_eq_true] at ht
  have hs := of_decide_eq_true ht.1
  have hn : (d - (o.f : Int)) % (p : Int) < (o.n : Int) := of_decide_eq_true ht.2
  have r0 := Int.emod_nonneg (d - o.f) (Int.ne_of_gt hp')
  obtain ⟨j, hj⟩ : ∃ j : Nat, (d - (o.f : Int)) % (p : Int) = j := ⟨((d - (o.f : Int)) % (p : Int)).toNat, by omega⟩
  have mj : j ∈ offs p os k o := mem_offs.mpr ⟨by omega, by
    rw [← e, hs]
    refine idx_cong ?_
    rw [Int.natCast_add, ← hj, Int.add_emod, Int.emod_emod_of_dvd _ (Int.dvd_refl _), ← Int.add_emod]
    congr 1
    omega⟩
  rcases simpO_cases (p := p) (os := os) k o with ⟨e2, _⟩ | ⟨a, b, _, _, e2, ha, hb, hjj⟩
  · rw [e2] at mj
    cases mj
  · have hb1 := (mem_offs.mp hb).1
    have okn := ok.n
    refine ⟨_, e2, ?_, rfl, rfl, rfl⟩
    unfold hit
    rw [Bool.and_eq_true]
    have := hjj j mj
    exact ⟨ht.1, (win (o := o) hp (hjj b hb).1 (by omega) d).mpr (by omega)⟩
/-- the shorter order, by its number -/
def simpF (p : Nat) (os : List Od) (k : Nat) : Option Od := (os[k]?).bind (simpO p os k)
def simpN (p : Nat) (os : List Od) (n : Nat) : List Od := (List.range n).filterMap (simpF p os)
def simpL (p : Nat) (os : List Od) : List Od := simpN p os os.length
theorem simpN_succ {n : Nat} : simpN p os (n + 1) = simpN p os n ++ (simpF p os n).toList := by
  unfold simpN
  rw [List.range_succ, List.filterMap_append]
  cases e : simpF p os n <;> simp [e]
theorem simpF_some {k : Nat} {o' : Od} (e : simpF p os k = some o') : ∃ o, os[k]? = some o ∧ simpO p os k o = some o' := Option.bind_eq_some_iff.mp e
theorem hop_find {c : Nat × Nat} : hop p os c = (os.find? (hit p c.1 (c.2 : Int))).map fun o => (o.t, c.2 + o.e) := by
  unfold hop
  cases e : idx p os c.1 (c.2 : Int) with
  | none =>
    have : os.find? (hit p c.1 (c.2 : Int)) = none := by
      rw [List.find?_eq_none]
      exact fun x hx => by
        have := List.findIdx?_eq_none_iff.mp (show os.findIdx? _ = none from e) x hx
        rw [this]
        exact Bool.false_ne_true
    rw [this]
    rfl
  | some k =>
    show (os[k]?).map _ = _
    congr 1
    obtain ⟨h1, h2, h3⟩ := List.findIdx?_eq_some_iff_getElem.mp (show os.findIdx? (hit p c.1 (c.2 : Int)) = some k from e)
    rw [List.getElem?_eq_getElem h1]
    symm
    rw [List.find?_eq_some_iff_getElem]
    exact ⟨h2, k, h1, rfl, fun j hj => by
      have := h3 j hj
      simpa using this⟩
theorem hop_simp (ok : NetOk p h os) (c : Nat × Nat) : hop p (simpL p os) c = hop p os c := by
  rw [hop_find (os := simpL p os)]
  unfold simpL simpN
  rw [List.find?_filterMap]
  cases e : idx p os c.1 (c.2 : Int) with
  | none =>
    rw [hop_i0 e]
    have : (List.range os.length).find? (fun a => (simpF p os a).any (hit p c.1 (c.2 : Int))) = none := by
      rw [List.find?_range_eq_none]
      intro k hk
      cases ef : simpF p os k with
      | none => rfl
      | some o' =>
        obtain ⟨o, eo, es⟩ := simpF_some ef
        show (!hit p c.1 (c.2 : Int) o') = true
        rw [Bool.not_eq_true', Bool.eq_false_iff]
        intro z
        have := simp_sub (ok.ok o (List.mem_of_getElem? eo)) es z
        have h2 := List.findIdx?_eq_none_iff.mp (show os.findIdx? _ = none from e) o (List.mem_of_getElem? eo)
        rw [h2] at this
        cases this
    rw [this]
    rfl
  | some k =>
    obtain ⟨o, eo, eh⟩ := hop_i1 e
    rw [eh]
    obtain ⟨o', es, ht, _, et, ee⟩ := simp_hit (ok.ok o (List.mem_of_getElem? eo)) eo e
    have ef : simpF p os k = some o' := by
      unfold simpF
      rw [eo]
      exact es
    have : (List.range os.length).find? (fun a => (simpF p os a).any (hit p c.1 (c.2 : Int))) = some k := by
      rw [List.find?_range_eq_some]
      refine ⟨by rw [ef]; exact ht, List.mem_range.mpr (idx_lt e), fun j hj => ?_⟩
      cases ej : simpF p os j with
      | none => rfl
      | some o2 =>
        obtain ⟨o1, eo1, es1⟩ := simpF_some ej
        show (!hit p c.1 (c.2 : Int) o2) = true
        rw [Bool.not_eq_true', Bool.eq_false_iff]
        intro z
        have := simp_sub (ok.ok o1 (List.mem_of_getElem? eo1)) es1 z
        obtain ⟨h1, _, h3⟩ := List.findIdx?_eq_some_iff_getElem.mp (show os.findIdx? (hit p c.1 (c.2 : Int)) = some k from e)
        have h4 := h3 j hj
        rw [List.getElem?_eq_getElem (by omega)] at eo1
        rw [Option.some.inj eo1] at h4
        exact h4 this
    rw [this]
    show ((simpF p os k).map fun o => (o.t, c.2 + o.e)) = _
    rw [ef]
    show some (o'.t, c.2 + o'.e) = _
    rw [et, ee]
end
/-! ### the simplified net: more -/
theorem Paired.getL {α β : Type} {R : α → β → Prop} : ∀ {a : List α} {b : List β}, Paired R a b → ∀ {i : Nat} {x : α}, a[i]? = some x → ∃ y, b[i]? = some y ∧ R x y
  | _, _, .nil, i, x, h => by cases h
  | _, _, .cons r t, 0, x, h => ⟨_, rfl, by
    obtain rfl := Option.some.inj h
    exact r⟩
  | _, _, .cons r t, i + 1, x, h => Paired.getL t (i := i) (by rw [List.getElem?_cons_succ] at h; exact h)
section
variable {p h : Nat} {os : List Od}
theorem simpN_len : ∀ {n : Nat}, (simpN p os n).length ≤ n
  | 0 => Nat.le_refl _
  | n + 1 => by
    rw [simpN_succ, List.length_append]
    have := simpN_len (n := n)
    have : (simpF p os n).toList.length ≤ 1 := by cases simpF p os n <;> simp
    omega
theorem simpF_ok (ok : NetOk p h os) {k : Nat} {o' : Od} (e : simpF p os k = some o') : OdOk p h o' := by
  obtain ⟨o, eo, es⟩ := simpF_some e
  have k0 := ok.ok o (List.mem_of_getElem? eo)
  rcases simpO_cases (p := p) (os := os) k o with ⟨_, e2⟩ | ⟨a, b, _, _, e2, ha, hb, hj⟩
  · rw [e2] at es
    cases es
  · rw [e2] at es
    obtain rfl := Option.some.inj es
    have hb1 := (mem_offs.mp hb).1
    have kn := k0.n
    exact ⟨k0.s, k0.t, k0.st, Nat.mod_lt _ ok.p1, by show 1 ≤ b - a + 1; omega, by show b - a + 1 ≤ p; omega, k0.e1, k0.e⟩
theorem simp_ok (ok : NetOk p h os) : NetOk p h (simpL p os) := by
  refine { ok with len := Nat.le_trans simpN_len ok.len, ok := fun o' ho => ?_ }
  obtain ⟨k, _, e⟩ := List.mem_filterMap.mp ho
  exact simpF_ok ok e
theorem simpN_get {k : Nat} {o' : Od} (e : simpF p os k = some o') : ∀ {n : Nat}, k < n → (simpN p os n)[(simpN p os k).length]? = some o'
  | n + 1, hk => by
    rw [simpN_succ]
    by_cases c : k = n
    · subst c
      rw [List.getElem?_append_right (Nat.le_refl _), Nat.sub_self, e]
      rfl
    · have ih := simpN_get e (show k < n by omega)
      rw [List.getElem?_append_left (List.getElem?_eq_some_iff.mp ih).1]
      exact ih
theorem simpN_inv {i : Nat} {o' : Od} : ∀ {n : Nat}, (simpN p os n)[i]? = some o' → ∃ k, k < n ∧ simpF p os k = some o' ∧ (simpN p os k).length = i
  | 0, e => by cases e
  | n + 1, e => by
    rw [simpN_succ] at e
    by_cases c : i < (simpN p os n).length
    · rw [List.getElem?_append_left c] at e
      obtain ⟨k, h1, h2, h3⟩ := simpN_inv e
      exact ⟨k, by omega, h2, h3⟩
    · rw [List.getElem?_append_right (by omega)] at e
      cases ef : simpF p os n with
      | none =>
        rw [ef] at e
        cases e
      | some o2 =>
        rw [ef] at e
        have il := (List.getElem?_eq_some_iff.mp e).1
        have il : i - (simpN p os n).length < 1 := il
        rw [show i - (simpN p os n).length = 0 by omega] at e
        have e : some o2 = some o' := e
        exact ⟨n, by omega, ef.trans e, by omega⟩
theorem simpN_idx (ok : NetOk p h os) {s k : Nat} {d : Int} (e : idx p os s d = some k) : ∀ {n : Nat}, n ≤ os.length → (n ≤ k → (simpN p os n).findIdx? (hit p s d) = none) ∧ (k < n → (simpN p os n).findIdx? (hit p s d) = some (simpN p os k).length)
  | 0, _ => ⟨fun _ => rfl, fun z => by omega⟩
  | n + 1, hn => by
    obtain ⟨i1, i2⟩ := simpN_idx ok e (n := n) (by omega)
    rw [simpN_succ, List.findIdx?_append]
    constructor
    · intro z
      rw [i1 (by omega)]
      cases ef : simpF p os n with
      | none => rfl
      | some o' =>
        obtain ⟨o, eo, es⟩ := simpF_some ef
        have : hit p s d o' = false := by
          rw [Bool.eq_false_iff]
          intro y
          have y2 := simp_sub (ok.ok o (List.mem_of_getElem? eo)) es y
          obtain ⟨h1, _, h3⟩ := List.findIdx?_eq_some_iff_getElem.mp (show os.findIdx? (hit p s d) = some k from e)
          have h4 := h3 n (by omega)
          rw [List.getElem?_eq_getElem (by omega)] at eo
          rw [Option.some.inj eo] at h4
          exact h4 y2
        simp [this]
    · intro z
      by_cases c : k = n
      · subst c
        rw [i1 (Nat.le_refl _)]
        have eo := List.getElem?_eq_getElem (show k < os.length by omega)
        obtain ⟨o', es, ht, _⟩ := simp_hit (ok.ok _ (List.getElem_mem _)) eo e
        have ef : simpF p os k = some o' := by
          unfold simpF
          rw [eo]
          exact es
        rw [ef]
        simp [ht]
      · rw [i2 (by omega)]
        rfl
theorem idx_simp (ok : NetOk p h os) {s k : Nat} {d : Int} (e : idx p os s d = some k) : idx p (simpL p os) s d = some (simpN p os k).length := (simpN_idx ok e (Nat.le_refl _)).2 (idx_lt e)
/-- both ends of a shorter order are followed -/
theorem simp_ends (ok : NetOk p h os) {i : Nat} {o' : Od} (e : (simpL p os)[i]? = some o') : idx p (simpL p os) o'.s ((o'.f + 0 : Nat) : Int) = some i ∧ idx p (simpL p os) o'.s ((o'.f + (o'.n - 1) : Nat) : Int) = some i := by
  obtain ⟨k, hk, ef, rfl⟩ := simpN_inv e
  obtain ⟨o, eo, es⟩ := simpF_some ef
  rcases simpO_cases (p := p) (os := os) k o with ⟨_, e2⟩ | ⟨a, b, _, _, e2, ha, hb, hj⟩
  · rw [e2] at es
    cases es
  · rw [e2] at es
    obtain rfl := Option.some.inj es
    have h1 := idx_simp ok (mem_offs.mp ha).2
    have h2 := idx_simp ok (mem_offs.mp hb).2
    have ab := (hj b hb).1
    refine ⟨?_, ?_⟩
    · rw [← h1]
      refine idx_cong ?_
      show (((o.f + a) % p + 0 : Nat) : Int) % (p : Int) = ((o.f + a : Nat) : Int) % p
      rw [Nat.add_zero, ← Int.natCast_emod, ← Int.natCast_emod, Nat.mod_mod]
    · rw [← h2]
      refine idx_cong ?_
      show (((o.f + a) % p + (b - a + 1 - 1) : Nat) : Int) % (p : Int) = ((o.f + b : Nat) : Int) % p
      rw [← Int.natCast_emod, ← Int.natCast_emod, Nat.mod_add_mod, show o.f + a + (b - a + 1 - 1) = o.f + b by omega]
theorem simp_self (ok : NetOk p h os) {i : Nat} {o' : Od} (e : (simpL p os)[i]? = some o') : simpF p (simpL p os) i = some o' := by
  have k := (simp_ok ok).ok o' (List.mem_of_getElem? e)
  have kn := k.n1
  have kf := k.f
  obtain ⟨h1, h2⟩ := simp_ends ok e
  have m0 : 0 ∈ offs p (simpL p os) i o' := mem_offs.mpr ⟨by omega, h1⟩
  have m1 : o'.n - 1 ∈ offs p (simpL p os) i o' := mem_offs.mpr ⟨by omega, h2⟩
  unfold simpF
  rw [e]
  show simpO p (simpL p os) i o' = some o'
  rcases simpO_cases (p := p) (os := simpL p os) i o' with ⟨e2, _⟩ | ⟨a, b, _, _, e2, ha, hb, hj⟩
  · rw [e2] at m0
    cases m0
  · rw [e2]
    have b1 := (mem_offs.mp hb).1
    have h0 := (hj 0 m0).1
    have h3 := (hj _ m1).2
    obtain rfl : a = 0 := by omega
    obtain rfl : b = o'.n - 1 := by omega
    rw [Nat.add_zero, Nat.mod_eq_of_lt kf, show o'.n - 1 - 0 + 1 = o'.n by omega]
theorem simp_idem (ok : NetOk p h os) : simpL p (simpL p os) = simpL p os := by
  have : ∀ n, n ≤ (simpL p os).length → simpN p (simpL p os) n = (simpL p os).take n := by
    intro n
    induction n with
    | zero => exact fun _ => rfl
    | succ n ih =>
      intro hn
      have e := List.getElem?_eq_getElem (show n < (simpL p os).length by omega)
      rw [simpN_succ, ih (by omega), simp_self ok e, List.take_add_one, e]
  unfold simpL at *
  rw [this _ (Nat.le_refl _), List.take_of_length_le (Nat.le_refl _)]
theorem mem_used {k : Nat} : inV (.int (k : Nat)) (usedL p h os) = true ↔ ∃ a d, a < h ∧ d < p ∧ idx p os a (d : Nat) = some k := by
  unfold inV usedL
  rw [List.any_eq_true]
  constructor
  · rintro ⟨v, hv, e⟩
    obtain ⟨l, hl, hv⟩ := List.mem_flatten.mp hv
    obtain ⟨a, ha, rfl⟩ := List.mem_map.mp hl
    obtain ⟨d, hd, rfl⟩ := List.mem_map.mp hv
    refine ⟨a, d, List.mem_range.mp ha, List.mem_range.mp hd, ?_⟩
    unfold cellV at e
    cases ei : idx p os a (d : Int) with
    | none =>
      rw [ei] at e
      simp [optV, eqV] at e
    | some j =>
      rw [ei] at e
      simp [optV, eqV] at e
      rw [show j = k by omega]
  · rintro ⟨a, d, ha, hd, e⟩
    refine ⟨cellV p os a d, List.mem_flatten.mpr ⟨_, List.mem_map.mpr ⟨a, List.mem_range.mpr ha, rfl⟩, List.mem_map.mpr ⟨d, List.mem_range.mpr hd, rfl⟩⟩, ?_⟩
    unfold cellV
    rw [e]
    simp [optV, eqV]
/-- an order is followed on some day just when it has a shorter one -/
theorem used_iff (ok : NetOk p h os) {k : Nat} (hk : k < os.length) : inV (.int (k : Nat)) (usedL p h os) = (simpF p os k).isSome := by
  have eo := List.getElem?_eq_getElem hk
  have k0 := ok.ok _ (List.getElem_mem hk)
  generalize os[k] = o at eo k0
  rw [Bool.eq_iff_iff, mem_used]
  constructor
  · rintro ⟨a, d, _, _, e⟩
    obtain ⟨o', es, _⟩ := simp_hit k0 eo e
    unfold simpF
    rw [eo]
    show (simpO p os k o).isSome = true
    rw [es]
    rfl
  · intro z
    obtain ⟨o', e⟩ := Option.isSome_iff_exists.mp z
    obtain ⟨o2, eo2, es⟩ := simpF_some e
    obtain rfl := Option.some.inj (eo.symm.trans eo2)
    rcases simpO_cases (p := p) (os := os) k o with ⟨_, e2⟩ | ⟨a, b, _, _, e2, ha, hb, hj⟩
    · rw [e2] at es
      cases es
    · refine ⟨o.s, (o.f + a) % p, k0.s, Nat.mod_lt _ ok.p1, ?_⟩
      rw [idx_nat]
      exact (mem_offs.mp ha).2
theorem idle_simp (ok : NetOk p h os) : idleL p h (simpL p os) = [] := by
  unfold idleL
  rw [List.filter_eq_nil_iff]
  intro i hi
  have hi := List.mem_range.mp hi
  have e := List.getElem?_eq_getElem hi
  rw [used_iff (simp_ok ok) hi, simp_self ok e]
  simp
/-- the orders that are kept -/
def keptL (p h : Nat) (os : List Od) (n : Nat) : List Nat := (List.range n).filter fun k => inV (.int (k : Nat)) (usedL p h os)
theorem kept_simp (ok : NetOk p h os) : ∀ {n : Nat}, n ≤ os.length → Paired (fun k o' => k < os.length ∧ simpF p os k = some o') (keptL p h os n) (simpN p os n)
  | 0, _ => .nil
  | n + 1, hn => by
    have ih := kept_simp ok (n := n) (by omega)
    unfold keptL at *
    rw [filter_range_succ', simpN_succ, used_iff ok (show n < os.length by omega)]
    cases e : simpF p os n with
    | none =>
      rw [if_neg (by simp)]
      exact Paired.app ih .nil
    | some o' =>
      rw [if_pos (show (some o').isSome = true from rfl)]
      exact Paired.app ih (.cons ⟨by omega, e⟩ .nil)
theorem filt_len (f : Nat → Bool) : ∀ l : List Nat, (l.filter f).length + (l.filter fun x => !f x).length = l.length
  | [] => rfl
  | a :: l => by
    have ih := filt_len f l
    cases e : f a <;> simp [e] <;> omega
theorem idle_len (ok : NetOk p h os) : (simpL p os).length + (idleL p h os).length = os.length := by
  have h1 := (kept_simp ok (Nat.le_refl os.length)).length
  show (simpN p os os.length).length + _ = _
  rw [← h1]
  unfold keptL idleL
  have := filt_len (fun k => inV (.int (k : Nat)) (usedL p h os)) (List.range os.length)
  rw [List.length_range] at this
  exact this
theorem way_congr {os' : List Od} (e : ∀ c, hop p os c = hop p os' c) : ∀ (n : Nat) (st : Nat × Nat), way p os n st = way p os' n st
  | 0, _ => rfl
  | n + 1, st => by
    unfold way
    rw [e]
    cases hop p os' st with
    | none => rfl
    | some s => exact congrArg (List.cons st) (way_congr e n s)
theorem dst_congr {os' : List Od} (e : ∀ c, hop p os c = hop p os' c) (s : Nat × Nat) : dst p h os s = dst p h os' s := by
  unfold dst folR
  rw [way_congr e]
end
/-! ### xs.extend(a tuple) -/
open PySem PySem.AutoSeq1 in
theorem extend_tup (lA bA : Addr) (us ws : Array Value) (cU cW : Nat) (di : Option Addr) (sl : Array (Option Value)) (long : ¬(!us.isEmpty && Builtin.List.listTooLong (us.size + ws.size)) = true) (zU : us.size ≤ sizeLine) (zB : us.size + ws.size ≤ sizeLine + 1) :
    PySem.Meets (Builtin.«list.extend» ⟨[.ref lA, .ref bA], []⟩) (fun _ Rs st => st.heap.get? lA = some { cls := .type "list", dict := none, data := .seq us cU, slots := #[] } ∧ st.heap.get? bA = some { cls := .type "tuple", dict := di, data := .seq ws cW, slots := sl } ∧
      Rs (.ok (.ret Value.none)) { st with heap := st.heap.update lA (Obj.mapSeq fun v => v ++ ws), toks := st.toks }) := by
  refine .of_wp fun prog w A Rs st q => ?_
  obtain ⟨hp, g0, d0, tk0, os0⟩ := st
  obtain ⟨eL, eB, q⟩ := q
  have f1 := idx_int
  have f2 := sub_tuple_tuple
  have f3 := sub_list_list
  have f4 := sub_tuple_list
  have f5 := sub_list_tuple
  have zz : (us ++ ws).size ≤ sizeLine + 1 := by
    rw [Array.size_append]
    exact zB
  wp_walk using (wpAny_updateSeq eL rfl (hz := zU) (_hz' := zz)), wpAny_loadPart' eL, wpAny_loadPart' eB
  exact ⟨_, rfl, q⟩
def rExtendT : V → List V → Hp → VK → Prop := fun x vs H Q => ∃ lA tA os ts, x = .ref lA ∧ vs = [.ref tA] ∧ H lA = some (.lst os) ∧ H tA = some (.tup ts) ∧ os.length + ts.length ≤ sizeLine ∧ Q .non (upd H lA (.lst (os ++ ts)))
theorem mt_extendT {X : Cx} : MtM X "list.extend" rExtendT := by
  intro pins sh σ0 H0 x0 vs0 v0 us0 Q0 Iv rX rV hx
  obtain ⟨lA, tA, os, ts, rfl, rfl, eL, eT, zS, q⟩ := hx
  cases rX
  obtain ⟨w1, rfl, rW⟩ := rV.one
  cases rW
  obtain ⟨_, js, cU, rL, lenL, oL⟩ := Iv.lstM eL
  obtain ⟨ks, rT, ⟨⟨cl, di, da, sl⟩, oT, hc, cW, hd⟩, _⟩ := Iv.tuple (SqT.of (K := X.K) eT)
  obtain rfl : cl = _ := hc
  obtain rfl : da = _ := hd
  have lenT := rT.length
  have zA : js.toArray.size + ks.toArray.size ≤ sizeLine := by
    rw [List.size_toArray, List.size_toArray]
    omega
  refine call_meets PySem.F.slot_list_extend ⟨_, oL, rfl⟩ PySem.F.entry_list_extend (PySem.F.args_list_extend_2 _ _) (extend_tup lA tA js.toArray ks.toArray cU cW di sl (fun z => by
    rw [notLongL zA, Bool.and_false] at z
    cases z) (by rw [List.size_toArray]; omega) (by omega)) ⟨oL, oT, ?_⟩
  refine ⟨.non, _, Iv.lset (its' := js ++ ks) eL oL (by simp) (rL.append rT) ?_, rfl, q⟩
  rw [List.length_append]
  omega
/-! ### the bytes of a net -/
def o5 (o : Od) : List Nat := [o.s, o.t, o.f, o.n, o.e]
theorem o5_vs {o : Od} : o.vs = nints (o5 o) := rfl
def headC (p h : Nat) (os : List Od) : List Nat := [78, p, h, os.length]
def sumC (l : List Nat) : Nat := l.sum % 256
def bodyC (p h : Nat) (os : List Od) : List Nat := headC p h os ++ os.flatMap o5
def codeOf (p h : Nat) (os : List Od) : List Nat := bodyC p h os ++ [sumC (bodyC p h os)]
theorem flat5 {os : List Od} : (os.flatMap o5).length = 5 * os.length := by
  induction os with
  | nil => rfl
  | cons o os ih =>
    rw [List.flatMap_cons, List.length_append, ih, List.length_cons]
    show 5 + _ = _
    omega
theorem bodyC_len {p h : Nat} {os : List Od} : (bodyC p h os).length = 4 + 5 * os.length := by
  unfold bodyC
  rw [List.length_append, flat5]
  rfl
theorem codeOf_len {p h : Nat} {os : List Od} : (codeOf p h os).length = 5 + 5 * os.length := by
  unfold codeOf
  rw [List.length_append, bodyC_len, List.length_singleton]
  omega
theorem flat5_at {os : List Od} {k j : Nat} {o : Od} (ho : os[k]? = some o) (hj : j < 5) : (os.flatMap o5)[5 * k + j]? = (o5 o)[j]? := by
  induction os generalizing k with
  | nil => cases ho
  | cons a os ih =>
    rw [List.flatMap_cons]
    cases k with
    | zero =>
      obtain rfl : a = o := Option.some.inj ho
      rw [show 5 * 0 + j = j by omega]
      exact List.getElem?_append_left (show j < (o5 a).length from hj)
    | succ k =>
      rw [List.getElem?_append_right (show (o5 a).length ≤ _ by show 5 ≤ _; omega)]
      rw [show 5 * (k + 1) + j - (o5 a).length = 5 * k + j by show 5 * (k + 1) + j - 5 = _; omega]
      exact ih ho
theorem code_at {p h k j : Nat} {os : List Od} {o : Od} (ho : os[k]? = some o) (hj : j < 5) : (codeOf p h os)[4 + 5 * k + j]? = (o5 o)[j]? := by
  have lt : k < os.length := (List.getElem?_eq_some_iff.mp ho).1
  unfold codeOf
  rw [List.getElem?_append_left (by rw [bodyC_len]; omega)]
  unfold bodyC
  rw [List.getElem?_append_right (by show 4 ≤ _; omega)]
  rw [show 4 + 5 * k + j - (headC p h os).length = 5 * k + j by show 4 + 5 * k + j - 4 = _; omega]
  exact flat5_at ho hj
theorem code_end {p h : Nat} {os : List Od} : (codeOf p h os)[4 + 5 * os.length]? = some (sumC (bodyC p h os)) := by
  unfold codeOf
  rw [List.getElem?_append_right (by rw [bodyC_len]; exact Nat.le_refl _), bodyC_len, Nat.sub_self]
  rfl
theorem code_take {p h : Nat} {os : List Od} : (codeOf p h os).take (4 + 5 * os.length) = bodyC p h os := by
  unfold codeOf
  rw [List.take_append_of_le_length (by rw [bodyC_len]; exact Nat.le_refl _), List.take_of_length_le (by rw [bodyC_len]; exact Nat.le_refl _)]
theorem nints_at {l : List Nat} {k n : Nat} (h : l[k]? = some n) : (nints l)[k]? = some (.int n) := by
  unfold nints
  rw [List.getElem?_map, h]
  rfl
theorem nints_sumI {l : List Nat} : (l.map fun (n : Nat) => (n : Int)).sum = (l.sum : Nat) := by
  induction l with
  | nil => rfl
  | cons a l ih =>
    rw [List.map_cons, List.sum_cons, List.sum_cons, ih]
    omega
/-- a comprehension over a range with steps -/
theorem lc_steps {lo c : Int} {n : Nat} {g : TG} {tt : TT} {te : TE} {ws : List Nat} {ρ : L2.St} {H0 : Hp} {L : Addr} {Qe : Hp → Prop} (J : Nat → Hp → Prop) (j0 : J 0 (upd H0 L (.lst [])))
    (go : ∀ i H, i < n → J i H → g (.int (lo + (i : Nat) * c)) (wipe ρ ws) H fun ρ2 H2 => wipe ρ2 ws = wipe ρ ws ∧ tt ρ2 H2 fun b H3 =>
      if b = true then te ρ2 H3 fun y H4 => ∃ acc, H4 L = some (.lst acc) ∧ acc.length < sizeLine ∧ J (i + 1) (upd H4 L (.lst (acc ++ [y]))) else J (i + 1) H3) (je : ∀ H, J n H → Qe H) :
    ∃ W : Nat → Nat → Hp → Prop, (∃ m, W 0 m (upd H0 L (.lst []))) ∧ ∀ i m H, W i m H →
      ((Itc lo c n).stop i H ∧ Qe H) ∨ ((Itc lo c n).go i H ∧ ∃ Nx : Hp → Prop, (∀ H', Nx H' → ∃ m', m' < m ∧ W (i + 1) m' H') ∧ ∀ x H', (Itc lo c n).yld i H x H' → g x (wipe ρ ws) H' fun ρ2 H2 => wipe ρ2 ws = wipe ρ ws ∧ tt ρ2 H2 fun b H3 =>
        if b = true then te ρ2 H3 fun y H4 => ∃ acc, H4 L = some (.lst acc) ∧ acc.length < sizeLine ∧ Nx (upd H4 L (.lst (acc ++ [y]))) else Nx H3) := by
  refine ⟨fun i m H => m + i = n ∧ J i H, ⟨n, rfl, j0⟩, fun i m H ⟨e, j⟩ => ?_⟩
  rcases Nat.lt_or_ge i n with lt | ge
  · refine .inr ⟨lt, J (i + 1), fun H' j' => ⟨m - 1, by omega, by omega, j'⟩, fun x H' ⟨e1, e2⟩ => ?_⟩
    subst e1 e2
    exact go i _ lt j
  · obtain rfl : i = n := by omega
    exact .inl ⟨Nat.le_refl _, je H j⟩
abbrev s_checksum : Stmt := top 48
abbrev N_checksum : List Str := ["code"]
abbrev P_checksum : List Str := ["code"]
theorem sc_checksum : FnScope N_checksum P_checksum (defScope s_checksum) := ⟨rfl, rfl, rfl, by decide +kernel, rfl, by decide +kernel, by decide +kernel⟩
abbrev s_encode : Stmt := top 47
abbrev N_encode : List Str := ["net", "code", "order"]
abbrev P_encode : List Str := ["net"]
theorem sc_encode : FnScope N_encode P_encode (defScope s_encode) := ⟨rfl, rfl, rfl, by decide +kernel, rfl, by decide +kernel, by decide +kernel⟩
/-! ### encode -/
def spCheckS (K : PySem.W.Frag) : Sp := fun vs H Q _ => ∃ (a : Addr) (l : List Nat), vs = [.ref a] ∧ H a = some (.lst (nints l)) ∧ Q (.int (sumC l)) H
def spEncode (C : Addr) : Sp := fun vs H Q _ => ∃ (x t : Addr) (p h : Nat) (os : List Od) (F : List Addr), vs = [.ref x] ∧ NetAt C H x p h os t F ∧ NetOk p h os ∧
  ∀ H' r, Same H H' → H r = none → H' r = some (.lst (nints (codeOf p h os))) → Q (.ref r) H'
section
variable {P : Program} {w : World} {K : PySem.W.Frag} {mg : Str → Option Value} {base : Heap}
theorem ok_checksum {f : Addr} {fd : FuncData} (F : Fun K "checksum" "checksum" s_checksum f fd) (zs : mg "sum" = none) : FnOk P w K mg base CX0 1 f fd P_checksum (spCheckS K) := by
  refine F.ok sc_checksum (fun vs H Q E h => ?_) (fun cdv A outer s H vs Q E hr h => ?_)
  · obtain ⟨a, l, rfl, _⟩ := h
    rfl
  · obtain ⟨a, l, rfl, ha, q⟩ := h
    refine ⟨_, pss_one (ps_ret (pe_op op_modN (pe_callB (cr_sum rfl) (by rfl) zs PyProof.Rows.boot_sum (pa_cons (pv 0) pa_nil)) pe_int)), ?_⟩
    refine ⟨_, rfl, a, l.map fun (n : Nat) => (n : Int), rfl, ?_, _, _, rfl, rfl, (by show (256 : Int) ≠ 0; decide), ?_⟩
    · rw [nints_V] at ha
      exact SqL.of ha
    · rw [nints_sumI]
      show Q (.int (((l.sum : Nat) : Int).fmod ((256 : Nat) : Int))) H
      rw [fmod_nat]
      exact q
theorem ok_encode {f C : Addr} {fd : FuncData} (F : Fun K "encode" "encode" s_encode f fd) (B : Blt mg) (T : NetT K C) (hF : ∃ t, mg "FIRST_BYTE" = some (.int 78 t)) (DS : Df P w K mg base "checksum" 1 P_checksum (spCheckS K)) : FnOk P w K mg base CX0 2 f fd P_encode (spEncode C) := by
  obtain ⟨fS, fdS, gS, kS, bS, GS⟩ := DS
  obtain ⟨tk, hF⟩ := hF
  refine F.ok sc_encode (fun vs H Q E h => ?_) (fun cdv A outer s H vs Q E hr h => ?_)
  · obtain ⟨x, t, p, h, os, F, rfl, _⟩ := h
    rfl
  · obtain ⟨x, t, p, h, os, F, rfl, Nt, nok, q⟩ := h
    refine ⟨_, pss_cons (ps_set (i := 1) sc_encode.nd rfl (.inl rfl) (pe_lst (pa_cons (pe_glob (v := .int 78) rfl hF ⟨_, rfl⟩) (pa_cons (pe_fld (pv 0) rfl) (pa_cons (pe_fld (pv 0) rfl) (pa_cons (pe_callB call_len_seq (by rfl) B.len PySem.boot_len (pa_cons (pe_fld (pv 0) rfl) pa_nil)) pa_nil))))))
      (pss_cons (ps_for PassesOwn.never rfl (pi_tup (pe_fld (pv 0) rfl)) (pg_name (i := 2) sc_encode.nd rfl (.inl rfl))
        (pss_one (ps_expr (pe_bm PySem.F.plainAttrs_list PySem.F.slot_list_extend PySem.F.type_list_extend mt_extendT (pv 1) (pa_cons (pv 2) pa_nil)))))
      (pss_one (ps_ret (pe_op op_cat (pv 1) (pe_lst (pa_cons (pe_call GS hr (by rfl) gS kS bS .nil pass0 (pa_cons (pv 1) pa_nil)) pa_nil)))))), ?_⟩
    obtain ⟨dx, fl, as, _, hx, ⟨ts, ht, hP⟩, _⟩ := id Nt
    have hl := hP.length
    have ol := nok.len
    refine ⟨_, rfl, x, C, dx, _, _, rfl, hx, T.cl, T.nP, nf_pe, _, rfl, x, C, dx, _, _, rfl, hx, T.cl, T.nH, nf_ho, _, rfl, x, C, dx, _, _, rfl, hx, T.cl, T.nO, nf_or, t, _, rfl, .inr (SqT.of ht), (by show 4 ≤ sizeLine; decide), fun L nL => ?_⟩
    rw [hl]
    have sL := same_upd (o := HO.lst (nints (headC p h os))) nL
    have ht1 := sL _ _ ht
    refine ⟨_, rfl, x, C, dx, _, _, rfl, sL _ _ hx, T.cl, T.nO, nf_or, t, rfl, ⟨_, SqT.of ht1⟩, ?_⟩
    refine for_tup (K := K) (a := t) (xs := ts) (fun i σ H' => (∃ x2, σ = [some (.ref x), some (.ref L), x2]) ∧ H' = upd H L (.lst (nints (headC p h os ++ (os.take i).flatMap o5))))
      ⟨⟨_, rfl⟩, by rw [List.take_zero, List.flatMap_nil, List.append_nil]; rfl⟩ (fun i σ H' _ ⟨_, e⟩ => by rw [e]; exact SqT.of (same_upd nL _ _ ht)) ?_ ?_
    · rintro i v σ H1 hi ⟨⟨x2, rfl⟩, rfl⟩
      have lt : i < os.length := by rw [← hl]; exact (List.getElem?_eq_some_iff.mp hi).1
      have ei := List.getElem?_eq_getElem lt
      obtain ⟨v', hv', u, ev, hu⟩ := Paired.get? (i := i) hP ei
      obtain rfl : v' = v := Option.some.inj (hv'.symm.trans hi)
      subst ev
      generalize os[i] = o at ei hu
      have nu : u ≠ L := ne_of_none hu nL
      refine ⟨_, rfl, .inl ⟨rfl, _, SqL.of upd_same⟩, ?_⟩
      refine ⟨_, rfl, L, u, _, _, rfl, rfl, upd_same, (upd_ne nu).trans hu, ?_, ⟨_, rfl⟩, ?_⟩
      · rw [nints_len, List.length_append, flat5, List.length_take]
        show 4 + 5 * min i os.length + 5 ≤ sizeLine
        exact Nat.le_of_lt (small1000 (by omega))
      · rw [upd_upd, List.take_add_one, ei, Option.toList_some, List.flatMap_append, o5_vs, ← nints_app, List.append_assoc]
        rfl
    · rintro σ H1 ⟨⟨x2, rfl⟩, rfl⟩
      rw [hl, List.take_length]
      have hB : (upd H L (.lst (nints (bodyC p h os)))) L = some (.lst (nints (bodyC p h os))) := upd_same
      have s1 := same_upd (o := HO.lst (nints (bodyC p h os))) nL
      refine ⟨_, rfl, _, rfl, L, bodyC p h os, rfl, hB, (by show 1 ≤ sizeLine; decide), fun L2 nL2 => ?_⟩
      have s2 := same_upd (o := HO.lst [V.int (sumC (bodyC p h os) : Nat)]) nL2
      refine ⟨L, L2, _, _, rfl, rfl, s2 _ _ hB, upd_same, ?_, fun L3 nL3 => ?_⟩
      · rw [nints_len, bodyC_len]
        show 4 + 5 * os.length + 1 ≤ sizeLine
        exact Nat.le_of_lt (small1000 (by omega))
      · have s3 := same_upd (o := HO.lst (nints (bodyC p h os) ++ [V.int (sumC (bodyC p h os) : Nat)])) nL3
        refine q _ L3 (s1.trans (s2.trans s3)) (s1.free (s2.free nL3)) ?_
        rw [upd_same]
        unfold codeOf
        rw [nints_app]
        rfl
end
/-! ### a dict whose keys are None and pairs of numbers -/
section
open PySem.Spec PyProof.Rows
abbrev NK := Option (Nat × Nat)
def nkD : NK → PyData
  | none => .none
  | some q => plD q
def nkL (q : Nat × Nat) : List L2.Key := [Sum.inl (q.1 : Int), Sum.inl (q.2 : Int)]
/-- u is the key k -/
def NKey (P : Program) (w : World) (h : Heap) (k : NK) (u : Value) : Prop :=
  (k = none ∧ u = .none) ∨ ∃ q b, k = some q ∧ u = .ref b ∧ (tupleKind (mixKind P w)).is h (nkL q) b ∧ ∃ as, Reads h u (plD q) as
def nkH (P : Program) (w : World) : NK → Int
  | none => (leafKind P w).hash .none
  | some q => (tupleKind (mixKind P w)).hash (nkL q)
def nkT (P : Program) (w : World) : NK → Nat
  | none => 1
  | some q => (tupleKind (mixKind P w)).draws (nkL q)
variable {P : Program} {w : World} {A : Around} {E : Value → Shared → Prop} {s : Shared}
theorem nkD_eqv (a b : NK) : PyData.eqv (nkD a) (nkD b) = decide (a = b) := by
  cases a with
  | none => cases b <;> simp [nkD, plD, PyData.eqv]
  | some q =>
    cases b with
    | none => simp [nkD, plD, PyData.eqv]
    | some r =>
      show PyData.eqv (plD q) (plD r) = _
      rw [plD_eqv]
      by_cases c : q = r
      · rw [decide_eq_true c, decide_eq_true (by rw [c])]
      · rw [decide_eq_false c, decide_eq_false fun e => c (Option.some.inj e)]
theorem nkD_lay (a : NK) : (nkD a).canLay0 = true ∧ (nkD a).depth ≤ 1 := by
  cases a with
  | none => exact ⟨rfl, by simp [nkD, PyData.depth]⟩
  | some q => exact ⟨by simp [nkD, plD, PyData.canLay0, PyData.canLayAll0], by simp [nkD, plD, PyData.depth, PyData.depthAll]⟩
theorem NKey.reads {k : NK} {u : Value} (x : NKey P w s.heap k u) : ∃ as, Reads s.heap u (nkD k) as := by
  rcases x with ⟨rfl, rfl⟩ | ⟨q, b, rfl, rfl, _, as, h⟩
  · exact ⟨_, Reads.none⟩
  · exact ⟨as, h⟩
theorem NKey.eq {k l : NK} {u v : Value} {Q : Bool → Shared → Prop} (x : NKey P w s.heap k u) (y : NKey P w s.heap l v) (hu : A.units + 1 < cLine) (h : Q (decide (k = l)) s) : wpAny (model P w) A (eqBool u v) Q E s := by
  obtain ⟨as, ra⟩ := x.reads
  obtain ⟨bs, rb⟩ := y.reads
  have h1 := nkD_lay k
  have h2 := nkD_lay l
  exact PySem.SeqAt.eqBoolOverData P w A E s u v _ _ as bs Q ra rb h1.1 h2.1 (by omega) (by rw [nkD_eqv]; exact h)
theorem NKey.quiet {k : NK} {u : Value} {Q : Bool → Shared → Prop} (x : NKey P w s.heap k u) (h : Q true s) : wpAny (model P w) A (eqIsQuiet 8 u) Q E s := by
  rcases x with ⟨rfl, rfl⟩ | ⟨q, b, rfl, rfl, x, _⟩
  · exact wpAny_pure h
  · exact (tupleKind (mixKind P w)).quiet x h
theorem NKey.hash {k : NK} {u : Value} {Q : Int → Shared → Prop} (x : NKey P w s.heap k u) (hr : (tupleKind (mixKind P w)).room A) (h : Q (nkH P w k) { s with toks := s.toks + nkT P w k }) : wpAny (model P w) A (PySem.pyHash u) Q E s := by
  rcases x with ⟨rfl, rfl⟩ | ⟨q, b, rfl, rfl, x, _⟩
  · exact (leafKind P w).pyHash (k := .none) rfl h
  · exact (tupleKind (mixKind P w)).pyHash hr x h
theorem NKey.inj {h : Heap} {k l : NK} {u : Value} (x : NKey P w h k u) (y : NKey P w h l u) : k = l := by
  rcases x with ⟨rfl, rfl⟩ | ⟨q, b, rfl, rfl, x, _⟩
  · rcases y with ⟨rfl, _⟩ | ⟨_, _, _, e, _⟩
    · rfl
    · cases e
  · rcases y with ⟨_, e⟩ | ⟨r, c, rfl, e, y, _⟩
    · cases e
    · cases e
      have z := (tupleKind (mixKind P w)).inj x y
      unfold nkL at z
      injection z with z1 z2
      injection z2 with z2
      injection z1 with z1
      injection z2 with z2
      rw [Prod.ext (by omega : q.1 = r.1) (by omega : q.2 = r.2)]
theorem tell_quiet {u : Value} {k : NK} {st : List Value} {Q : Bool → Shared → Prop} (x : NKey P w s.heap k u) (hs : ∀ v ∈ st, ∃ l, NKey P w s.heap l v) (h : Q false s) : wpAny (model P w) A (tableMayTell u st) Q E s := by
  unfold tableMayTell
  split
  · exact wpAny_pure h
  · refine wpAny_bind (x.quiet ?_)
    simp only [Bool.not_true, Bool.false_eq_true, if_false]
    refine wpAny_bind (wpAny_forIn_list _ (fun r b t => t = s ∧ b = (none, ()) ∧ ∀ v ∈ r, ∃ l, NKey P w s.heap l v) _ (fun v r b t g => ?_) (fun b t g => ?_) _ _ ⟨rfl, rfl, hs⟩)
    · obtain ⟨rfl, rfl, g⟩ := g
      obtain ⟨l, hl⟩ := g v List.mem_cons_self
      refine wpAny_bind (hl.quiet ?_)
      simp only [Bool.not_true, Bool.false_eq_true, if_false]
      exact wpAny_pure ⟨rfl, rfl, fun z hz => g z (List.mem_cons_of_mem _ hz)⟩
    · obtain ⟨rfl, rfl, _⟩ := g
      exact wpAny_pure h
end
section
open PySem.Spec PyProof.Rows
variable {P : Program} {w : World} {A : Around} {E : Value → Shared → Prop} {s : Shared}
structure NTab (P : Program) (w : World) (h : Heap) (es : Array DictEntry) (ks : List NK) : Prop where
  sz : es.size = ks.length
  row : ∀ (j : Nat) (e : DictEntry) (k : NK), es[j]? = some e → ks[j]? = some k → e.hash = nkH P w k ∧ NKey P w h k e.key
  nd : ks.Nodup
theorem NTab.both {h : Heap} {es : Array DictEntry} {ks : List NK} (T : NTab P w h es ks) {j : Nat} (lt : j < es.size) : ∃ e k, es[j]? = some e ∧ ks[j]? = some k ∧ e.hash = nkH P w k ∧ NKey P w h k e.key := by
  have l2 : j < ks.length := by rw [← T.sz]; exact lt
  have h1 := Array.getElem?_eq_getElem lt
  have h2 := List.getElem?_eq_getElem l2
  exact ⟨_, _, h1, h2, T.row _ _ _ h1 h2⟩
def plcs (es : Array DictEntry) (H : Int) : List Nat := placesWithHash es.size (fun i => es[i]?.map (·.hash)) H
theorem plcs_mem {es : Array DictEntry} {H : Int} {j : Nat} : j ∈ plcs es H ↔ j < es.size ∧ (es[j]?).map (·.hash) = some H := by
  unfold plcs placesWithHash
  rw [List.mem_filter, List.mem_range, beq_iff_eq]
theorem plcs_nd {es : Array DictEntry} {H : Int} : (plcs es H).Nodup := List.nodup_range.filter _
theorem NTab.found {h : Heap} {es : Array DictEntry} {ks : List NK} (T : NTab P w h es ks) {j : Nat} {k : NK} (e : ks[j]? = some k) : j ∈ plcs es (nkH P w k) := by
  have lt : j < es.size := by rw [T.sz]; exact (List.getElem?_eq_some_iff.mp e).1
  obtain ⟨e', k', h1, h2, h3, _⟩ := T.both lt
  obtain rfl : k' = k := Option.some.inj (h2.symm.trans e)
  exact plcs_mem.mpr ⟨lt, by rw [h1, ← h3]; rfl⟩
theorem NTab.once {h : Heap} {es : Array DictEntry} {ks : List NK} (T : NTab P w h es ks) {i j : Nat} {k : NK} (a : ks[i]? = some k) (b : ks[j]? = some k) : i = j :=
  (List.getElem?_inj (List.getElem?_eq_some_iff.mp a).1 T.nd).mp (a.trans b.symm)
theorem nd_walk {d : Addr} {u : Value} {o : Obj} {es : Array DictEntry} {ep : Nat} {ks : List NK} {k : NK} {Q : Option Nat → Shared → Prop} (hu : A.units + 1 < cLine) (x : NKey P w s.heap k u) (ho : s.heap.get? d = some o) (hd : o.data = .dict es ep)
    (T : NTab P w s.heap es ks) (hq : ∀ r : Option Nat, (∀ j, r = some j ↔ ks[j]? = some k) → Q r s) : wpAny (model P w) A (dictWalkPlain d u (nkH P w k) es (plcs es (nkH P w k))) Q E s := by
  unfold dictWalkPlain
  refine wpAny_bind (wpAny_forIn_list _ (fun rest b t => t = s ∧ b = (none, ()) ∧ (∀ i ∈ rest, i < es.size) ∧ ∀ j, ks[j]? = some k → j ∈ rest) _ (fun i rest b t g => ?_) (fun b t g => ?_) _ _ ⟨rfl, rfl, fun i hi => (plcs_mem.mp hi).1, fun j hj => T.found hj⟩)
  · obtain ⟨rfl, rfl, g1, g2⟩ := g
    obtain ⟨e, k', h1, h2, h3, h4⟩ := T.both (g1 i List.mem_cons_self)
    rw [h1]
    dsimp only
    have skip : k' ≠ k → t = t ∧ (none, ()) = ((none, ()) : Option (Option Nat) × Unit) ∧ (∀ i ∈ rest, i < es.size) ∧ ∀ j, ks[j]? = some k → j ∈ rest := fun ne => ⟨rfl, rfl, fun i hi => g1 i (List.mem_cons_of_mem _ hi), fun j hj => by
      rcases List.mem_cons.mp (g2 j hj) with z | z
      · rw [z, h2] at hj
        exact absurd (Option.some.inj hj) ne
      · exact z⟩
    by_cases c : (e.hash == nkH P w k) = true
    · rw [if_pos c]
      refine wpAny_bind (wpAny_dictEpoch ho hd (wpAny_bind (h4.eq x hu (wpAny_bind (wpAny_dictEpoch ho hd ?_)))))
      by_cases q : k' = k
      · rw [decide_eq_true q]
        subst q
        rw [if_neg (by simp)]
        simp only [if_true]
        refine wpAny_bind (wpAny_rule (wpAny_pure ?_))
        refine wpAny_pure (hq (some i) fun j => ⟨fun z => ?_, fun z => ?_⟩)
        · cases z
          exact h2
        · rw [T.once h2 z]
      · rw [decide_eq_false q]
        rw [if_neg (by simp)]
        simp only [Bool.false_eq_true, if_false]
        exact wpAny_bind (wpAny_rule (wpAny_pure (skip q)))
    · rw [if_neg c]
      refine wpAny_pure (skip fun q => c ?_)
      rw [h3, q]
      exact beq_self_eq_true _
  · obtain ⟨rfl, rfl, g1, g2⟩ := g
    refine wpAny_pure (hq none fun j => ⟨(fun z => by cases z), fun z => ?_⟩)
    have := g2 j z
    cases this
theorem wp_ite {M : Model} {α : Type} {c : Prop} [Decidable c] {m n : Sem α} {Q : α → Shared → Prop} (a : c → wpAny M A m Q E s) (b : ¬ c → wpAny M A n Q E s) : wpAny M A (if c then m else n) Q E s := by
  by_cases h : c
  · rw [if_pos h]
    exact a h
  · rw [if_neg h]
    exact b h
def HitOk (ks : List NK) (k : NK) (past : List Nat) (hit : Option Nat) : Prop := (hit = none ∧ ∀ j ∈ past, ks[j]? ≠ some k) ∨ ∃ j, hit = some j ∧ j ∈ past ∧ ks[j]? = some k
theorem HitOk.skip {ks : List NK} {k : NK} {past : List Nat} {hit : Option Nat} (a : HitOk ks k past hit) {i : Nat} (n : ks[i]? ≠ some k) : HitOk ks k (past ++ [i]) hit := by
  rcases a with ⟨e, q⟩ | ⟨j, e, q1, q2⟩
  · refine .inl ⟨e, fun j hj => ?_⟩
    rcases List.mem_append.mp hj with z | z
    · exact q j z
    · rw [List.mem_singleton.mp z]
      exact n
  · exact .inr ⟨j, e, List.mem_append_left _ q1, q2⟩
theorem nd_find {d : Addr} {u : Value} {o : Obj} {es : Array DictEntry} {ep : Nat} {ks : List NK} {k : NK} {Q : Option Nat → Shared → Prop} (hu : A.units + 1 < cLine) (x : NKey P w s.heap k u) (ho : s.heap.get? d = some o) (hd : o.data = .dict es ep)
    (T : NTab P w s.heap es ks) (hq : ∀ r : Option Nat, (∀ j, r = some j ↔ ks[j]? = some k) → Q r s) : wpAny (model P w) A (dictFind d u (nkH P w k)) Q E s := by
  have hst : ∀ v ∈ (plcs es (nkH P w k)).filterMap (fun i => (es[i]?).map (·.key)), ∃ l, NKey P w s.heap l v := fun v hv => by
    obtain ⟨i, hi, e⟩ := List.mem_filterMap.mp hv
    obtain ⟨e', k', h1, _, _, h4⟩ := T.both (plcs_mem.mp hi).1
    rw [h1] at e
    obtain rfl := Option.some.inj e
    exact ⟨k', h4⟩
  have hany : ∀ b, u = .ref b → ¬ (es.any fun e => e.key == u && e.hash != nkH P w k) = true := fun b ub z => by
    rw [Array.any_eq_true] at z
    obtain ⟨i, lt, z⟩ := z
    rw [Bool.and_eq_true] at z
    obtain ⟨e', k', h1, _, h3, h4⟩ := T.both lt
    rw [Array.getElem?_eq_getElem lt] at h1
    obtain rfl := Option.some.inj h1
    have ek := beq_iff_eq.mp z.1
    rw [ek] at h4
    have := h4.inj x
    rw [h3, this] at z
    simp at z
  have ux : u = .none ∨ ∃ b, u = .ref b := by
    rcases x with ⟨_, e⟩ | ⟨_, b, _, e, _⟩
    · exact .inl e
    · exact .inr ⟨b, e⟩
  unfold dictFind
  refine wpAny_holding ?_
  refine wpAny_bind (wpAny_dictEntries ho hd ?_)
  rcases ux with rfl | ⟨b, rfl⟩
  · dsimp only
    refine wp_ite (fun _ => nd_walk hu x ho hd T hq) fun _ => wp_ite (fun _ => ?_) fun _ => ?_
    · refine wpAny_bind (wpAny_pure ?_)
      show wpAny _ _ (if (false && _) = true then _ else _) _ _ _
      rw [Bool.false_and, if_neg Bool.false_ne_true]
      refine wpAny_bind (wpAny_forIn_list _ (fun rest b t => t = s ∧ ∃ past hit, plcs es (nkH P w k) = past ++ rest ∧ b = (none, hit) ∧ HitOk ks k past hit) _ (fun i rest b t g => ?_) (fun b t g => ?_) _ _ ⟨rfl, [], none, rfl, rfl, .inl ⟨rfl, fun j hj => nomatch hj⟩⟩)
      · obtain ⟨rfl, past, hit, g1, rfl, g2⟩ := g
        have im : i ∈ plcs es (nkH P w k) := by rw [g1]; exact List.mem_append_right _ List.mem_cons_self
        have ip : i ∉ past := fun z => by
          have nd := plcs_nd (es := es) (H := nkH P w k)
          rw [g1] at nd
          exact (List.nodup_append.mp nd).2.2 i z i List.mem_cons_self rfl
        have g3 : plcs es (nkH P w k) = (past ++ [i]) ++ rest := by rw [g1, List.append_assoc]; rfl
        obtain ⟨e, k', h1, h2, h3, h4⟩ := T.both (plcs_mem.mp im).1
        rw [h1]
        dsimp only
        by_cases c : (e.hash == nkH P w k) = true
        · rw [if_pos c]
          refine wpAny_bind (wpAny_dictEpoch ho hd (wpAny_bind (h4.eq x hu (wpAny_bind (wpAny_dictEpoch ho hd ?_)))))
          rw [if_neg (by simp)]
          by_cases q : k' = k
          · rw [decide_eq_true q, if_pos rfl]
            subst q
            have hn : hit = none := by
              rcases g2 with ⟨z, _⟩ | ⟨j, _, z1, z2⟩
              · exact z
              · rw [T.once h2 z2] at ip
                exact absurd z1 ip
            subst hn
            rw [if_neg (by simp)]
            refine wpAny_bind (wpAny_rule (wp_ite (fun _ => wpAny_pure (wpAny_pure (hq (some i) fun j => ⟨fun z => ?_, fun z => ?_⟩))) fun _ => wpAny_pure ⟨rfl, past ++ [i], some i, g3, rfl, .inr ⟨i, rfl, List.mem_append_right _ List.mem_cons_self, h2⟩⟩))
            · cases z
              exact h2
            · rw [T.once h2 z]
          · rw [decide_eq_false q, if_neg (by simp)]
            refine wpAny_bind (wpAny_rule ?_)
            rw [Bool.false_and, if_neg Bool.false_ne_true]
            exact wpAny_pure ⟨rfl, past ++ [i], hit, g3, rfl, g2.skip fun z => q (Option.some.inj (h2.symm.trans z))⟩
        · rw [if_neg c]
          refine wpAny_pure ⟨rfl, past ++ [i], hit, g3, rfl, g2.skip fun z => c ?_⟩
          rw [h2] at z
          rw [h3, Option.some.inj z]
          exact beq_self_eq_true _
      · obtain ⟨rfl, past, hit, g1, rfl, g2⟩ := g
        rw [List.append_nil] at g1
        refine wpAny_pure (hq hit fun j => ?_)
        rcases g2 with ⟨rfl, g2⟩ | ⟨i, rfl, _, g3⟩
        · exact ⟨(fun z => by cases z), fun z => absurd z (g2 j (by rw [← g1]; exact T.found z))⟩
        · exact ⟨fun z => by cases z; exact g3, fun z => by rw [T.once g3 z]⟩
    · refine wpAny_bind (tell_quiet x hst ?_)
      show wpAny _ _ (if (false && _) = true then _ else _) _ _ _
      rw [Bool.false_and, if_neg Bool.false_ne_true]
      refine wpAny_bind (wpAny_forIn_list _ (fun rest b t => t = s ∧ ∃ past hit, plcs es (nkH P w k) = past ++ rest ∧ b = (none, hit) ∧ HitOk ks k past hit) _ (fun i rest b t g => ?_) (fun b t g => ?_) _ _ ⟨rfl, [], none, rfl, rfl, .inl ⟨rfl, fun j hj => nomatch hj⟩⟩)
      · obtain ⟨rfl, past, hit, g1, rfl, g2⟩ := g
        have im : i ∈ plcs es (nkH P w k) := by rw [g1]; exact List.mem_append_right _ List.mem_cons_self
        have ip : i ∉ past := fun z => by
          have nd := plcs_nd (es := es) (H := nkH P w k)
          rw [g1] at nd
          exact (List.nodup_append.mp nd).2.2 i z i List.mem_cons_self rfl
        have g3 : plcs es (nkH P w k) = (past ++ [i]) ++ rest := by rw [g1, List.append_assoc]; rfl
        obtain ⟨e, k', h1, h2, h3, h4⟩ := T.both (plcs_mem.mp im).1
        rw [h1]
        dsimp only
        by_cases c : (e.hash == nkH P w k) = true
        · rw [if_pos c]
          refine wpAny_bind (wpAny_dictEpoch ho hd (wpAny_bind (h4.eq x hu (wpAny_bind (wpAny_dictEpoch ho hd ?_)))))
          rw [if_neg (by simp)]
          by_cases q : k' = k
          · rw [decide_eq_true q, if_pos rfl]
            subst q
            have hn : hit = none := by
              rcases g2 with ⟨z, _⟩ | ⟨j, _, z1, z2⟩
              · exact z
              · rw [T.once h2 z2] at ip
                exact absurd z1 ip
            subst hn
            rw [if_neg (by simp)]
            refine wpAny_bind (wpAny_rule (wp_ite (fun _ => wpAny_pure (wpAny_pure (hq (some i) fun j => ⟨fun z => ?_, fun z => ?_⟩))) fun _ => wpAny_pure ⟨rfl, past ++ [i], some i, g3, rfl, .inr ⟨i, rfl, List.mem_append_right _ List.mem_cons_self, h2⟩⟩))
            · cases z
              exact h2
            · rw [T.once h2 z]
          · rw [decide_eq_false q, if_neg (by simp)]
            refine wpAny_bind (wpAny_rule ?_)
            rw [Bool.false_and, if_neg Bool.false_ne_true]
            exact wpAny_pure ⟨rfl, past ++ [i], hit, g3, rfl, g2.skip fun z => q (Option.some.inj (h2.symm.trans z))⟩
        · rw [if_neg c]
          refine wpAny_pure ⟨rfl, past ++ [i], hit, g3, rfl, g2.skip fun z => c ?_⟩
          rw [h2] at z
          rw [h3, Option.some.inj z]
          exact beq_self_eq_true _
      · obtain ⟨rfl, past, hit, g1, rfl, g2⟩ := g
        rw [List.append_nil] at g1
        refine wpAny_pure (hq hit fun j => ?_)
        rcases g2 with ⟨rfl, g2⟩ | ⟨i, rfl, _, g3⟩
        · exact ⟨(fun z => by cases z), fun z => absurd z (g2 j (by rw [← g1]; exact T.found z))⟩
        · exact ⟨fun z => by cases z; exact g3, fun z => by rw [T.once g3 z]⟩
  · dsimp only
    rw [if_neg (by simp [carriedByValue]), if_neg (hany b rfl)]
    refine wp_ite (fun _ => ?_) fun _ => ?_
    · refine wpAny_bind (wpAny_pure ?_)
      show wpAny _ _ (if (false && _) = true then _ else _) _ _ _
      rw [Bool.false_and, if_neg Bool.false_ne_true]
      refine wpAny_bind (wpAny_forIn_list _ (fun rest b t => t = s ∧ ∃ past hit, plcs es (nkH P w k) = past ++ rest ∧ b = (none, hit) ∧ HitOk ks k past hit) _ (fun i rest b t g => ?_) (fun b t g => ?_) _ _ ⟨rfl, [], none, rfl, rfl, .inl ⟨rfl, fun j hj => nomatch hj⟩⟩)
      · obtain ⟨rfl, past, hit, g1, rfl, g2⟩ := g
        have im : i ∈ plcs es (nkH P w k) := by rw [g1]; exact List.mem_append_right _ List.mem_cons_self
        have ip : i ∉ past := fun z => by
          have nd := plcs_nd (es := es) (H := nkH P w k)
          rw [g1] at nd
          exact (List.nodup_append.mp nd).2.2 i z i List.mem_cons_self rfl
        have g3 : plcs es (nkH P w k) = (past ++ [i]) ++ rest := by rw [g1, List.append_assoc]; rfl
        obtain ⟨e, k', h1, h2, h3, h4⟩ := T.both (plcs_mem.mp im).1
        rw [h1]
        dsimp only
        by_cases c : (e.hash == nkH P w k) = true
        · rw [if_pos c]
          refine wpAny_bind (wpAny_dictEpoch ho hd (wpAny_bind (h4.eq x hu (wpAny_bind (wpAny_dictEpoch ho hd ?_)))))
          rw [if_neg (by simp)]
          by_cases q : k' = k
          · rw [decide_eq_true q, if_pos rfl]
            subst q
            have hn : hit = none := by
              rcases g2 with ⟨z, _⟩ | ⟨j, _, z1, z2⟩
              · exact z
              · rw [T.once h2 z2] at ip
                exact absurd z1 ip
            subst hn
            rw [if_neg (by simp)]
            refine wpAny_bind (wpAny_rule (wp_ite (fun _ => wpAny_pure (wpAny_pure (hq (some i) fun j => ⟨fun z => ?_, fun z => ?_⟩))) fun _ => wpAny_pure ⟨rfl, past ++ [i], some i, g3, rfl, .inr ⟨i, rfl, List.mem_append_right _ List.mem_cons_self, h2⟩⟩))
            · cases z
              exact h2
            · rw [T.once h2 z]
          · rw [decide_eq_false q, if_neg (by simp)]
            refine wpAny_bind (wpAny_rule ?_)
            rw [Bool.false_and, if_neg Bool.false_ne_true]
            exact wpAny_pure ⟨rfl, past ++ [i], hit, g3, rfl, g2.skip fun z => q (Option.some.inj (h2.symm.trans z))⟩
        · rw [if_neg c]
          refine wpAny_pure ⟨rfl, past ++ [i], hit, g3, rfl, g2.skip fun z => c ?_⟩
          rw [h2] at z
          rw [h3, Option.some.inj z]
          exact beq_self_eq_true _
      · obtain ⟨rfl, past, hit, g1, rfl, g2⟩ := g
        rw [List.append_nil] at g1
        refine wpAny_pure (hq hit fun j => ?_)
        rcases g2 with ⟨rfl, g2⟩ | ⟨i, rfl, _, g3⟩
        · exact ⟨(fun z => by cases z), fun z => absurd z (g2 j (by rw [← g1]; exact T.found z))⟩
        · exact ⟨fun z => by cases z; exact g3, fun z => by rw [T.once g3 z]⟩
    · refine wpAny_bind (tell_quiet x hst ?_)
      show wpAny _ _ (if (false && _) = true then _ else _) _ _ _
      rw [Bool.false_and, if_neg Bool.false_ne_true]
      refine wpAny_bind (wpAny_forIn_list _ (fun rest b t => t = s ∧ ∃ past hit, plcs es (nkH P w k) = past ++ rest ∧ b = (none, hit) ∧ HitOk ks k past hit) _ (fun i rest b t g => ?_) (fun b t g => ?_) _ _ ⟨rfl, [], none, rfl, rfl, .inl ⟨rfl, fun j hj => nomatch hj⟩⟩)
      · obtain ⟨rfl, past, hit, g1, rfl, g2⟩ := g
        have im : i ∈ plcs es (nkH P w k) := by rw [g1]; exact List.mem_append_right _ List.mem_cons_self
        have ip : i ∉ past := fun z => by
          have nd := plcs_nd (es := es) (H := nkH P w k)
          rw [g1] at nd
          exact (List.nodup_append.mp nd).2.2 i z i List.mem_cons_self rfl
        have g3 : plcs es (nkH P w k) = (past ++ [i]) ++ rest := by rw [g1, List.append_assoc]; rfl
        obtain ⟨e, k', h1, h2, h3, h4⟩ := T.both (plcs_mem.mp im).1
        rw [h1]
        dsimp only
        by_cases c : (e.hash == nkH P w k) = true
        · rw [if_pos c]
          refine wpAny_bind (wpAny_dictEpoch ho hd (wpAny_bind (h4.eq x hu (wpAny_bind (wpAny_dictEpoch ho hd ?_)))))
          rw [if_neg (by simp)]
          by_cases q : k' = k
          · rw [decide_eq_true q, if_pos rfl]
            subst q
            have hn : hit = none := by
              rcases g2 with ⟨z, _⟩ | ⟨j, _, z1, z2⟩
              · exact z
              · rw [T.once h2 z2] at ip
                exact absurd z1 ip
            subst hn
            rw [if_neg (by simp)]
            refine wpAny_bind (wpAny_rule (wp_ite (fun _ => wpAny_pure (wpAny_pure (hq (some i) fun j => ⟨fun z => ?_, fun z => ?_⟩))) fun _ => wpAny_pure ⟨rfl, past ++ [i], some i, g3, rfl, .inr ⟨i, rfl, List.mem_append_right _ List.mem_cons_self, h2⟩⟩))
            · cases z
              exact h2
            · rw [T.once h2 z]
          · rw [decide_eq_false q, if_neg (by simp)]
            refine wpAny_bind (wpAny_rule ?_)
            rw [Bool.false_and, if_neg Bool.false_ne_true]
            exact wpAny_pure ⟨rfl, past ++ [i], hit, g3, rfl, g2.skip fun z => q (Option.some.inj (h2.symm.trans z))⟩
        · rw [if_neg c]
          refine wpAny_pure ⟨rfl, past ++ [i], hit, g3, rfl, g2.skip fun z => c ?_⟩
          rw [h2] at z
          rw [h3, Option.some.inj z]
          exact beq_self_eq_true _
      · obtain ⟨rfl, past, hit, g1, rfl, g2⟩ := g
        rw [List.append_nil] at g1
        refine wpAny_pure (hq hit fun j => ?_)
        rcases g2 with ⟨rfl, g2⟩ | ⟨i, rfl, _, g3⟩
        · exact ⟨(fun z => by cases z), fun z => absurd z (g2 j (by rw [← g1]; exact T.found z))⟩
        · exact ⟨fun z => by cases z; exact g3, fun z => by rw [T.once g3 z]⟩
end
section
open PySem.Spec PyProof.Rows
variable {P : Program} {w : World} {A : Around} {E : Value → Shared → Prop} {s : Shared}
theorem nd_get {d : Addr} {u : Value} {o : Obj} {es : Array DictEntry} {ep : Nat} {ks : List NK} {k : NK} {Q : Option Value → Shared → Prop} (hu : A.units + 1 < cLine) (hr : (tupleKind (mixKind P w)).room A) (x : NKey P w s.heap k u) (ho : s.heap.get? d = some o)
    (hd : o.data = .dict es ep) (T : NTab P w s.heap es ks) (hq : ∀ r : Option Nat, (∀ j, r = some j ↔ ks[j]? = some k) → Q ((r.bind fun j => es[j]?).map (·.val)) { s with toks := s.toks + nkT P w k }) : wpAny (model P w) A (dictGet d u) Q E s := by
  unfold dictGet
  refine wpAny_holding (wpAny_bind (x.hash hr (wpAny_bind (nd_find (s := { s with toks := s.toks + nkT P w k }) hu x ho hd T fun r hr2 => ?_))))
  have h := hq r hr2
  cases r with
  | none => exact wpAny_pure h
  | some j => exact wpAny_bind (wpAny_dictEntries (s := { s with toks := s.toks + nkT P w k }) ho hd (wpAny_pure h))
theorem nd_set {d : Addr} {u v : Value} {o : Obj} {es : Array DictEntry} {ep : Nat} {ks : List NK} {k : NK} {Q : Unit → Shared → Prop} (hu : A.units + 1 < cLine) (hr : (tupleKind (mixKind P w)).room A) (x : NKey P w s.heap k u) (ho : s.heap.get? d = some o)
    (hd : o.data = .dict es ep) (T : NTab P w s.heap es ks) (hz : es.size ≤ sizeLine)
    (hnew : (∀ j : Nat, ks[j]? ≠ some k) → Q () { s with heap := s.heap.update d (Obj.mapDictKeys (·.push ⟨nkH P w k, u, v⟩)), toks := s.toks + nkT P w k })
    (hold : ∀ j : Nat, ks[j]? = some k → Q () { s with heap := s.heap.update d (Obj.mapDict (·.modify j fun e => { e with val := v })), toks := s.toks + nkT P w k }) : wpAny (model P w) A (dictSet d u v) Q E s := by
  unfold dictSet
  refine wpAny_holding (wpAny_bind (x.hash hr ?_))
  unfold dictSetHashed
  refine wpAny_holding (wpAny_bind (nd_find (s := { s with toks := s.toks + nkT P w k }) hu x ho hd T fun r hr2 => ?_))
  cases r with
  | none => exact wpAny_bind (wpAny_rule (wpAny_updateDictKeys (s := { s with toks := s.toks + nkT P w k }) ho hd (hnew fun j e => nomatch (hr2 j).mpr e) hz))
  | some j => exact wpAny_bind (wpAny_rule (wpAny_bind (wpAny_updateDict (s := { s with toks := s.toks + nkT P w k }) ho hd (wpAny_point (hold j ((hr2 j).mp rfl))))))
end
/-! ### .. in the hand layer -/
section
open PySem.Spec PyProof.Rows
abbrev NRow := NK × V × V
def ERow (P : Program) (w : World) (r : NRow) (e : DictEntry) : Prop := e.hash = nkH P w r.1 ∧ RelV r.2.1 e.key ∧ RelV r.2.2 e.val
/-- the dict at d holds the rows -/
def dnO (P : Program) (w : World) (d : Addr) (rows : List NRow) : HO := .ext fun h => rows.length ≤ sizeLine ∧ ∃ us : List DictEntry, Paired (ERow P w) rows us ∧ ∃ o ep, h.get? d = some o ∧ o.ExactDict ∧ o.data = .dict us.toArray ep
def KeyV (H : Hp) : NK → V → Prop
  | none, v => v = .non
  | some q, v => StopAt H v q
theorem KeyV.keep {H H' : Hp} {k : NK} {v : V} (t : TupKeep H H') (h : KeyV H k v) : KeyV H' k v := by
  cases k with
  | none => exact h
  | some q => exact StopAt.keep t h
structure DN (P : Program) (w : World) (H : Hp) (d : Addr) (rows : List NRow) : Prop where
  at_ : H d = some (dnO P w d rows)
  sys : (d == sysModules) = false
  keys : ∀ r ∈ rows, KeyV H r.1 r.2.1
  nd : (rows.map (·.1)).Nodup
def putN (rows : List NRow) (k : NK) (u v : V) : List NRow := if k ∈ rows.map (·.1) then rows.map fun r => if r.1 = k then (r.1, r.2.1, v) else r else rows ++ [(k, u, v)]
def valN (rows : List NRow) (k : NK) : Option V := (rows.find? fun r => decide (r.1 = k)).map (·.2.2)
variable {X : Cx} {pins : List (Addr × Obj)} {σ : L2.St} {H : Hp} {s : Shared}
theorem keyV_nkey (I : Inv X pins σ H s) {k : NK} {v : V} {u : Value} (h : KeyV H k v) (r : RelV v u) : NKey X.prog X.w s.heap k u := by
  cases k with
  | none =>
    obtain rfl : v = .non := h
    exact .inl ⟨rfl, r⟩
  | some q =>
    obtain ⟨b, rfl, hb⟩ := id h
    obtain rfl : u = Value.ref b := r
    obtain ⟨as, ra⟩ := Dp.reads I (plD q) (.ref b) (.ref b) (stop_dp h) rfl
    exact .inr ⟨q, b, rfl, rfl, key_of (ks := nkL q) I.hok hb, as, ra⟩
theorem erow_get {P : Program} {w : World} {rows : List NRow} {us : List DictEntry} (h : Paired (ERow P w) rows us) {j : Nat} {e : DictEntry} (he : us[j]? = some e) : ∃ r, rows[j]? = some r ∧ ERow P w r e := Paired.get? h he
theorem dn_raw (I : Inv X pins σ H s) {d : Addr} {rows : List NRow} (D : DN X.prog X.w H d rows) : rows.length ≤ sizeLine ∧ ∃ us : List DictEntry, Paired (ERow X.prog X.w) rows us ∧ ∃ o ep, s.heap.get? d = some o ∧ o.ExactDict ∧ o.data = .dict us.toArray ep ∧ NTab X.prog X.w s.heap us.toArray (rows.map (·.1)) := by
  obtain ⟨⟨hz, us, hp, o, ep, ho, hx, hd⟩, _⟩ := (show ObjOk X.prog X.w H s.heap d (dnO X.prog X.w d rows) from I.hok d _ D.at_)
  refine ⟨hz, us, hp, o, ep, ho, hx, hd, by rw [List.size_toArray, List.length_map, hp.length], fun j e k he hk => ?_, D.nd⟩
  have he : us[j]? = some e := by simpa using he
  obtain ⟨r, hr, e1, e2, e3⟩ := erow_get hp he
  rw [List.getElem?_map, hr] at hk
  obtain rfl := Option.some.inj hk
  exact ⟨e1, keyV_nkey I (D.keys r (List.mem_of_getElem? hr)) e2⟩
/-- {} -/
def tDNewN (P : Program) (w : World) : TE := fun _ H Q => ∀ p, H p = none → (p == sysModules) = false → Q (.ref p) (upd H p (dnO P w p []))
theorem dnO_ok {P : Program} {w : World} {H : Hp} {h : Heap} {d : Addr} {rows : List NRow} {us : List DictEntry} {o : Obj} {ep : Nat} (hz : rows.length ≤ sizeLine) (hp : Paired (ERow P w) rows us) (ho : h.get? d = some o) (hx : o.ExactDict) (hd : o.data = .dict us.toArray ep) : ObjOk P w H h d (dnO P w d rows) :=
  ⟨⟨hz, us, hp, o, ep, ho, hx, hd⟩, ⟨o, ho⟩, fun _ _ ⟨z, us', p', o', ep', ho', hx', hd'⟩ k => ⟨z, us', p', o', ep', k _ ho', hx', hd'⟩⟩
theorem pe_dnewN {pos : Pos} : PE X (.Dict [] [] pos) (tDNewN X.prog X.w) := ⟨fun pins s σ H Q I h =>
  wpAny_Dict_empty ⟨.ref s.heap.objs.size, _, I.laid (a := s.heap.objs.size) (o := dnO X.prog X.w s.heap.objs.size []) (t' := s.toks) (fun _ _ q => Heap.get?_push_of_some _ q) (Nat.le_refl _)
    (dnO_ok (us := []) (ep := 0) (Nat.zero_le _) .nil (Heap.get?_push_size _ rfl) ⟨rfl, rfl, rfl⟩ rfl), rfl, h _ (I.hok.fresh (Nat.le_refl _)) (beq_eq_false_iff_ne.mpr (Ne.symm (Nat.ne_of_lt I.big)))⟩⟩
theorem dn_new {P : Program} {w : World} {d : Addr} (hs : (d == sysModules) = false) : DN P w (upd H d (dnO P w d [])) d [] := ⟨upd_same, hs, (fun _ h => by cases h), List.nodup_nil⟩
/-- the value found, in the words of rows -/
theorem found_val {P : Program} {w : World} {rows : List NRow} {us : List DictEntry} (hp : Paired (ERow P w) rows us) {k : NK} {r : Option Nat} (hr : ∀ j, r = some j ↔ (rows.map (·.1))[j]? = some k) (nd : (rows.map (·.1)).Nodup) :
    (valN rows k = none ∧ r = none) ∨ ∃ j e v, r = some j ∧ us[j]? = some e ∧ valN rows k = some v ∧ RelV v e.val := by
  cases r with
  | none =>
    refine .inl ⟨?_, rfl⟩
    unfold valN
    rw [Option.map_eq_none_iff, List.find?_eq_none]
    intro z hz e
    obtain ⟨j, hj⟩ := List.getElem?_of_mem hz
    have := (hr j).mpr (by rw [List.getElem?_map, hj, ← of_decide_eq_true e]; rfl)
    cases this
  | some j =>
    have h1 := (hr j).mp rfl
    rw [List.getElem?_map] at h1
    obtain ⟨row, h2, h3⟩ := Option.map_eq_some_iff.mp h1
    have lt : j < us.length := by rw [← hp.length]; exact (List.getElem?_eq_some_iff.mp h2).1
    have h4 := List.getElem?_eq_getElem lt
    obtain ⟨row', h5, h6⟩ := erow_get hp h4
    obtain rfl := Option.some.inj (h2.symm.trans h5)
    refine .inr ⟨j, _, row.2.2, rfl, h4, ?_, h6.2.2⟩
    unfold valN
    cases hf : rows.find? fun r => decide (r.1 = k) with
    | none =>
      rw [List.find?_eq_none] at hf
      exact absurd (decide_eq_true h3) (hf row (List.mem_of_getElem? h2))
    | some r2 =>
      have hm := List.mem_of_find?_eq_some hf
      have hk : r2.1 = k := by
        have := List.find?_some hf
        simpa using this
      obtain ⟨i, hi⟩ := List.getElem?_of_mem hm
      have hi' : (rows.map (·.1))[i]? = some k := by rw [List.getElem?_map, hi, ← hk]; rfl
      have eij : i = j := Option.some.inj (((hr i).mpr hi').symm)
      rw [eij, h2] at hi
      rw [Option.some.inj hi]
      rfl
theorem putN_len {rows : List NRow} {k : NK} {u v : V} : (putN rows k u v).length ≤ rows.length + 1 := by
  unfold putN
  split
  · rw [List.length_map]
    exact Nat.le_succ _
  · rw [List.length_append]
    exact Nat.le_refl _
theorem putN_keys {H : Hp} {rows : List NRow} {k : NK} {u v : V} (h : ∀ r ∈ rows, KeyV H r.1 r.2.1) (hk : KeyV H k u) : ∀ r ∈ putN rows k u v, KeyV H r.1 r.2.1 := fun r hr => by
  unfold putN at hr
  split at hr
  · obtain ⟨r0, h0, rfl⟩ := List.mem_map.mp hr
    have := h r0 h0
    by_cases c : r0.1 = k
    · rw [if_pos c]
      exact this
    · rw [if_neg c]
      exact this
  · rcases List.mem_append.mp hr with z | z
    · exact h r z
    · rw [List.mem_singleton.mp z]
      exact hk
theorem putN_nd {rows : List NRow} {k : NK} {u v : V} (nd : (rows.map (·.1)).Nodup) : ((putN rows k u v).map (·.1)).Nodup := by
  unfold putN
  split
  · rw [List.map_map]
    have e : ((fun r : NRow => r.1) ∘ fun r => if r.1 = k then (r.1, r.2.1, v) else r) = fun r => r.1 := by
      funext r
      show (if r.1 = k then (r.1, r.2.1, v) else r).1 = r.1
      split <;> rfl
    rw [e]
    exact nd
  · rename_i c
    rw [List.map_append]
    refine List.nodup_append.mpr ⟨nd, by simp, fun a ha b hb e => c ?_⟩
    have hb : b = k := by simpa using hb
    rw [← hb, ← e]
    exact ha
theorem erow_set {P : Program} {w : World} {rows : List NRow} {us : List DictEntry} (hp : Paired (ERow P w) rows us) {k : NK} {j : Nat} {v : V} {x : Value} (hj : (rows.map (·.1))[j]? = some k) (nd : (rows.map (·.1)).Nodup) (rv : RelV v x) :
    Paired (ERow P w) (rows.map fun r => if r.1 = k then (r.1, r.2.1, v) else r) (us.modify j fun e => { e with val := x }) := by
  induction hp generalizing j with
  | nil => simp at hj
  | cons r t ih =>
    rename_i r0 e0 rows us
    rw [List.map_cons, List.nodup_cons] at nd
    cases j with
    | zero =>
      have h0 : r0.1 = k := by simpa using hj
      have eT : (rows.map fun r => if r.1 = k then (r.1, r.2.1, v) else r) = rows := by
        conv => rhs; rw [← List.map_id rows]
        apply List.map_congr_left
        intro z hz
        have : ¬ z.1 = k := fun e => nd.1 (by rw [h0, ← e]; exact List.mem_map.mpr ⟨z, hz, rfl⟩)
        rw [if_neg this]
        rfl
      rw [List.map_cons, eT, if_pos h0]
      exact .cons ⟨r.1, r.2.1, rv⟩ t
    | succ j =>
      have h1 : (rows.map (·.1))[j]? = some k := by simpa using hj
      have h0 : ¬ r0.1 = k := fun e => nd.1 (by rw [e]; exact List.mem_of_getElem? h1)
      rw [List.map_cons, if_neg h0]
      exact .cons r (ih h1 nd.2)
/-- d.get(k, x) -/
def rGetN (P : Program) (w : World) : V → List V → Hp → VK → Prop := fun x xs H Q => ∃ (d : Addr) (rows : List NRow) (k : NK) (u y : V), x = .ref d ∧ xs = [u, y] ∧ DN P w H d rows ∧ KeyV H k u ∧ Q ((valN rows k).getD y) H
theorem mt_getN (hu : X.A.units + 2 < cLine) : MtR X "dict.get" (rGetN X.prog X.w) := by
  intro pins s σ H x xs v us Q I rx rxs h
  obtain ⟨d, rows, k, u, y, rfl, rfl, D, hk, q⟩ := h
  cases rx
  cases rxs with
  | cons ru r2 =>
    rename_i uu us'
    cases r2 with
    | cons ry r3 =>
      rename_i uy us2
      cases r3
      obtain ⟨hz, us, hp, o, ep, ho, hx, hd, T⟩ := dn_raw I D
      have ty : s.TypeIs (.ref d) "dict" := ⟨o, ho, hx.1⟩
      refine call_meetsIn PySem.F.slot_dict_get ty PySem.F.entry_dict_get (PySem.F.args_dict_get_3 _ _ _) (S := fun A R s' => A = X.A ∧ s' = s ∧ ∀ z t, RelV ((valN rows k).getD y) z → R (.ok (.ret z)) { s with toks := t }) (.of_wp fun A R s' hS => ?_) ⟨rfl, rfl, fun z t rz => ⟨_, H, I.tok t, rz, q⟩⟩
      obtain ⟨rfl, rfl, hR⟩ := hS
      show wpAny _ _ (dictGet d uu >>= _) _ _ _
      refine wpAny_bind (nd_get (A := X.A.in1) (by show X.A.units + 1 + 1 < cLine; omega) (tupleKind_room_in1 (by omega)) (keyV_nkey I hk ru) ho hd T fun r hr => ?_)
      rcases found_val hp hr D.nd with ⟨e1, rfl⟩ | ⟨j, e, v, rfl, he, e1, rv⟩
      · rw [e1] at hR
        show wpAny _ _ (Builtin.Dict.missed d uu >>= _) _ _ _
        exact wpAny_bind (wpAny_missed_other D.sys (wpAny_pure ⟨uy, rfl, hR _ _ ry⟩))
      · rw [e1] at hR
        have he2 : us.toArray[j]? = some e := by simpa using he
        rw [Option.bind_some, he2]
        exact wpAny_pure ⟨e.val, rfl, hR _ _ rv⟩
end
section
open PySem.Spec PyProof.Rows
variable {X : Cx} {pins : List (Addr × Obj)} {σ : L2.St} {H : Hp} {s : Shared}
theorem tk_dn {P : Program} {w : World} {d : Addr} {rows : List NRow} {o : HO} (h : H d = some (dnO P w d rows)) : TupKeep H (upd H d o) := fun b xs e => by
  rw [upd_ne (ne_of e h (fun z => by cases z))]
  exact e
theorem dn_put {P : Program} {w : World} {d : Addr} {rows : List NRow} {k : NK} {u v : V} (D : DN P w H d rows) (hk : KeyV H k u) : DN P w (upd H d (dnO P w d (putN rows k u v))) d (putN rows k u v) :=
  ⟨upd_same, D.sys, putN_keys (fun r hr => (D.keys r hr).keep (tk_dn D.at_)) (hk.keep (tk_dn D.at_)), putN_nd D.nd⟩
theorem dn_same {P : Program} {w : World} {H' : Hp} {d : Addr} {rows : List NRow} (D : DN P w H d rows) (s : Same H H') : DN P w H' d rows := ⟨s _ _ D.at_, D.sys, fun r hr => (D.keys r hr).keep (tk_of s), D.nd⟩
theorem us_modify {us : List DictEntry} {j : Nat} {f : DictEntry → DictEntry} : us.toArray.modify j f = (us.modify j f).toArray := by simp
/-- d[k] = v -/
def rSetN (P : Program) (w : World) : TSet := fun x i v H Q => ∃ (d : Addr) (rows : List NRow) (k : NK), x = .ref d ∧ DN P w H d rows ∧ KeyV H k i ∧ rows.length < sizeLine ∧ Q (upd H d (dnO P w d (putN rows k i v)))
theorem set_dictN (hu : X.A.units + 2 < cLine) : PSet X (rSetN X.prog X.w) := by
  intro pins s σ H x i v ov iv u Q I ro ri rv h
  obtain ⟨d, rows, k, rfl, D, hk, hl, q⟩ := h
  cases (show ov = Value.ref d from ro)
  obtain ⟨hz, us, hp, o, ep, ho, hx, hd, T⟩ := dn_raw I D
  have ty : s.TypeIs (.ref d) "dict" := ⟨o, ho, hx.1⟩
  have fin : ∀ {h' : Heap} {t : Nat} {us' : List DictEntry} {o' : Obj} {ep' : Nat}, Heap.SameBut d s.heap h' → h'.get? d = some o' → o'.ExactDict → o'.data = .dict us'.toArray ep' → Paired (ERow X.prog X.w) (putN rows k i v) us' →
      ∃ H', Inv X pins σ H' { s with heap := h', toks := t } ∧ Q H' := fun {h' t us' o' ep'} hs ho' hx' hd' hp' =>
    ⟨_, d_write I (by rw [D.at_]; exact True.intro) hs ⟨o', ho'⟩ (dnO_ok (by have := putN_len (rows := rows) (k := k) (u := i) (v := v); omega) hp' ho' hx' hd'), q⟩
  unfold setItem
  refine wpAny_holding (wpAny_bind (wpAny_sequenceKey ty (by decide) ?_))
  refine wpAny_bind (wpAny_callSpecial?_slot (name := Str.ofString "__setitem__") ty slot_dict_setitem (wpAny_call_entry slot_dict_setitem ty entry_dict_setitem ?_ (args_dict_setitem _ _ _)))
  show wpAny _ _ (Builtin.Dict.notOrdered "__setitem__" ⟨[.ref d, iv, u], []⟩ >>= _) _ _ s
  refine wpAny_bind (wpAny_notOrdered_dict ty ?_)
  show wpAny _ _ (dictSet d iv u >>= _) _ _ s
  refine wpAny_bind (nd_set (by show X.A.units + 1 + 1 < cLine; omega) (tupleKind_room_in1 (by omega)) (keyV_nkey I hk ri) ho hd T (by rw [List.size_toArray, ← hp.length]; omega) (fun hn => ?_) fun j hj => ?_)
  · refine wpAny_pure ⟨.none, rfl, wpAny_pure ?_⟩
    refine fin (us' := us ++ [⟨nkH X.prog X.w k, iv, u⟩]) (ep' := ep + 1) (Heap.SameBut.update ..) (Heap.get?_update_self _ ho (Obj.isFreed_of_dict (Obj.data_mapDictKeys hd _))) (hx.mapDictKeys _) (by rw [Obj.data_mapDictKeys hd]; simp) ?_
    unfold putN
    rw [if_neg fun z => by
      obtain ⟨j, hj⟩ := List.getElem?_of_mem z
      exact hn j hj]
    exact Paired.snoc hp ⟨rfl, ri, rv⟩
  · refine wpAny_pure ⟨.none, rfl, wpAny_pure ?_⟩
    refine fin (us' := us.modify j fun e => { e with val := u }) (ep' := ep) (Heap.SameBut.update ..) (Heap.get?_update_self _ ho (Obj.isFreed_of_dict (Obj.data_mapDict hd _))) (hx.mapDict _) (by rw [Obj.data_mapDict hd, us_modify]) ?_
    unfold putN
    rw [if_pos (List.mem_of_getElem? hj)]
    exact erow_set hp hj D.nd rv
/-- k in d -/
def rInN (P : Program) (w : World) : R2 := fun x y H Q => ∃ (d : Addr) (rows : List NRow) (k : NK), y = .ref d ∧ DN P w H d rows ∧ KeyV H k x ∧ Q (.bl (valN rows k).isSome) H
theorem op_inN (hu : X.A.units + 2 < cLine) : OpR X (compareOp .In) (rInN X.prog X.w) := by
  intro pins s σ H x y v u Q I rx ry h
  obtain ⟨d, rows, k, rfl, D, hk, q⟩ := h
  cases (show u = Value.ref d from ry)
  obtain ⟨hz, us, hp, o, ep, ho, hx, hd, T⟩ := dn_raw I D
  have ty : s.TypeIs (.ref d) "dict" := ⟨o, ho, hx.1⟩
  show wpAny _ _ (do return Value.bool (← contains (.ref d) v)) _ _ s
  refine wpAny_bind (wpAny_contains_slot ty PySem.F.slot_dict_contains ?_)
  refine call_meetsIn PySem.F.slot_dict_contains ty PySem.F.entry_dict_contains (PySem.F.args_dict_contains_2 _ _) (S := fun A R s' => A = X.A ∧ s' = s ∧ ∀ t, R (.ok (.ret (.bool (valN rows k).isSome))) { s with toks := t }) (.of_wp fun A R s' hS => ?_) ⟨rfl, rfl, fun t => wpAny_truthy_bool (wpAny_pure ⟨.bl _, H, I.tok t, rfl, q⟩)⟩
  obtain ⟨rfl, rfl, hR⟩ := hS
  show wpAny _ _ (dictGet d v >>= _) _ _ _
  refine wpAny_bind (nd_get (A := X.A.in1) (by show X.A.units + 1 + 1 < cLine; omega) (tupleKind_room_in1 (by omega)) (keyV_nkey I hk rx) ho hd T fun r hr => ?_)
  rcases found_val hp hr D.nd with ⟨e1, rfl⟩ | ⟨j, e, z, rfl, he, e1, rv⟩
  · rw [e1] at hR
    show wpAny _ _ (Builtin.Dict.pendingKey? d v >>= _) _ _ _
    exact wpAny_bind (wpAny_pendingKey_other D.sys (wpAny_pure ⟨_, rfl, hR _⟩))
  · rw [e1] at hR
    have he2 : us.toArray[j]? = some e := by simpa using he
    rw [Option.bind_some, he2]
    exact wpAny_pure ⟨_, rfl, hR _⟩
end
/-! ### .. its values, its keys one by one -/
section
open PySem.Spec PyProof.Rows
variable {X : Cx} {pins : List (Addr × Obj)} {σ : L2.St} {H : Hp} {s : Shared}
theorem dn_rawD (I : Inv X pins σ H s) {d : Addr} {rows : List NRow} (D : DN X.prog X.w H d rows) : ∃ (us : List DictEntry) (ep : Nat), Paired (ERow X.prog X.w) rows us ∧ s.heap.DictRaw d us.toArray ep := by
  obtain ⟨_, us, hp, o, ep, ho, hx, hd, _⟩ := dn_raw I D
  exact ⟨us, ep, hp, o, ho, hx, hd⟩
/-- d.values() -/
def rValuesN (P : Program) (w : World) : V → List V → Hp → VK → Prop := fun x xs H Q => ∃ (a : Addr) (rows : List NRow), x = .ref a ∧ xs = [] ∧ DN P w H a rows ∧ ∀ p, H p = none → Q (.ref p) (L2.upd H p (valsO p a))
theorem mt_valuesN : MtR X "dict.values" (rValuesN X.prog X.w) := by
  intro pins s σ H x xs v us Q I rx rxs h
  obtain ⟨a, rows, rfl, rfl, D, q⟩ := h
  cases rx
  cases rxs
  obtain ⟨es, ep, hp, raw⟩ := dn_rawD I D
  refine call_meetsIn PySem.F.slot_dict_values raw.typeIs PySem.F.entry_dict_values (PySem.F.args_dict_values_1 _) (PySem.meets_dict_values_raw a D.sys) ⟨⟨_, ep, raw⟩, ?_⟩
  exact ⟨.ref s.heap.objs.size, L2.upd H s.heap.objs.size (valsO s.heap.objs.size a), I.laid (t' := s.toks) (fun b u e => Heap.get?_push_of_some _ e) (Nat.le_refl _) (valsO_ok (Heap.get?_push_size _ rfl)), rfl, q _ (I.hok.fresh (Nat.le_refl _))⟩
/-- max(d.values()), numbers -/
def rMaxVN (P : Program) (w : World) : List V → Hp → VK → Prop := fun xs H Q => ∃ (p a : Addr) (rows : List NRow) (ns : List Int), xs = [.ref p] ∧ H p = some (valsO p a) ∧ DN P w H a rows ∧ rows.map (·.2.2) = ns.map V.int ∧ 0 < ns.length ∧
  ∀ m, m ∈ ns → (∀ y ∈ ns, y ≤ m) → Q (.int m) H
theorem cr_maxVN (hc : X.calm = true) : CallR X (.builtin "max") (rMaxVN X.prog X.w) := by
  intro pins s σ H xs us Q I rx h
  obtain ⟨p, a, rows, ns, rfl, hv, D, hns, hne, q⟩ := h
  rw [Vals.ref1 rx]
  obtain ⟨es, ep, hp, raw⟩ := dn_rawD I D
  have hvv : s.heap.IsValuesView p a := (show ObjOk X.prog X.w H s.heap p (valsO p a) from I.hok p _ hv).1
  have l1 : rows.length = ns.length := by
    have e := congrArg List.length hns
    rw [List.length_map, List.length_map] at e
    exact e
  have l2 : es.toArray.size = ns.length := by rw [List.size_toArray, ← hp.length, l1]
  have val : ∀ (i : Nat) (v : Value), (∃ hi : i < es.toArray.size, v = es.toArray[i].val) → ∃ t, v = .int (ns.getD i 0) t := fun i v ⟨hi, ev⟩ => by
    have hi2 : i < es.length := by rw [List.size_toArray] at hi; exact hi
    obtain ⟨r, hr, _, _, rv⟩ := erow_get hp (List.getElem?_eq_getElem hi2)
    have hi3 : i < ns.length := by rw [← l2]; exact hi
    have e2 : r.2.2 = V.int ns[i] := by
      have z : (rows.map (·.2.2))[i]? = (ns.map V.int)[i]? := by rw [hns]
      rw [List.getElem?_map, List.getElem?_map, hr, List.getElem?_eq_getElem hi3] at z
      exact Option.some.inj z
    rw [e2] at rv
    obtain ⟨t, et⟩ := rv
    refine ⟨t, ?_⟩
    rw [ev, List.getD_eq_getElem?_getD, List.getElem?_eq_getElem hi3]
    simpa using et
  refine call_max_walk ?_
  refine wpAny_pyIter_values_raw hvv raw ?_
  have ha : a < s.heap.objs.size := raw.lt_size
  refine ⟨s.heap.objs.size, [s.heap.objs.size, a], [s.heap.objs.size], es.toArray.size, _, _, fun i j => decide (ns.getD i 0 > ns.getD j 0), rfl, Walks.rawValues (show X.A.in1.handled = none from I.ok.hd hc) _ a (Nat.ne_of_lt ha) es.toArray ep, ⟨⟨_, Heap.get?_push_size _ rfl, rfl, rfl⟩, raw.push _⟩, fun b hb => ?_, by omega, CmpOf.ints_gt (fun i => ns.getD i 0) (fun i v z => val i v z), fun v h' tk hw hk => ?_⟩
  · show b < (s.heap.push _).objs.size
    rw [Heap.size_push]
    simp only [List.mem_cons, List.not_mem_nil, or_false] at hb
    rcases hb with z | z
    · rw [z]
      exact Nat.lt_succ_self _
    · rw [z]
      exact Nat.lt_succ_of_lt ha
  · obtain ⟨t, rfl⟩ := val _ _ hw
    have m2 := (argBest_gt (fun i => ns.getD i 0) (es.toArray.size - 1)).2
    have m1 := (argBest_gt (fun i => ns.getD i 0) (es.toArray.size - 1)).1
    have keep : ∀ b o, s.heap.get? b = some o → h'.get? b = some o := fun b o e => hk b o (fun z => by rw [List.mem_singleton.mp z] at e; exact absurd (Heap.lt_size e) (Nat.lt_irrefl _)) (Heap.get?_push_of_some _ e)
    refine ⟨.int _, H, I.kept (t' := tk) keep, ⟨t, rfl⟩, q _ ?_ fun y hy => ?_⟩
    · have lt : argBest (fun i j => decide (ns.getD i 0 > ns.getD j 0)) (es.toArray.size - 1) < ns.length := Nat.lt_of_le_of_lt m1 (by omega)
      rw [List.getD_eq_getElem?_getD, List.getElem?_eq_getElem lt]
      exact List.getElem_mem lt
    · obtain ⟨j, hj, e⟩ := List.mem_iff_getElem.mp hy
      have z : ns.getD j 0 ≤ ns.getD (argBest (fun i j => decide (ns.getD i 0 > ns.getD j 0)) (es.toArray.size - 1)) 0 := m2 j (by omega)
      have e3 : ns.getD j 0 = y := by rw [List.getD_eq_getElem?_getD, List.getElem?_eq_getElem hj, ← e]; rfl
      rw [e3] at z
      exact z
/-- the keys one by one, the dict locked -/
def ItN (P : Program) (w : World) (d : Addr) (o : Obj) (rows : List NRow) : It :=
  ⟨fun i H => H d = some (.frz o (dnO P w d rows)) ∧ i < rows.length, fun i H x H' => H' = H ∧ ∃ r, rows[i]? = some r ∧ x = r.2.1, fun i H => H d = some (.frz o (dnO P w d rows)) ∧ rows.length ≤ i⟩
def iKeysN (P : Program) (w : World) (td : TE) : TI := fun σ H R => td σ H fun x H1 => ∃ d o rows, x = .ref d ∧ (d == sysModules) = false ∧ H1 d = some (.frz o (dnO P w d rows)) ∧ R (ItN P w d o rows) H1
theorem frzN (I : Inv X pins σ H s) {d : Addr} {o : Obj} {rows : List NRow} (h : H d = some (.frz o (dnO X.prog X.w d rows))) : s.heap.get? d = some o ∧ o.ExactDict ∧ ∃ (us : List DictEntry) (ep : Nat), o.data = .dict us.toArray ep ∧ Paired (ERow X.prog X.w) rows us := by
  obtain ⟨ho, ⟨⟨_, us, hp, o', ep, ho', hx, hd⟩, _⟩⟩ := (show ObjOk X.prog X.w H s.heap d (.frz o (dnO X.prog X.w d rows)) from I.hok d _ h)
  obtain rfl := Option.some.inj (ho.symm.trans ho')
  exact ⟨ho, hx, us, ep, hd, hp⟩
theorem ep_of {o : Obj} {es es' : Array DictEntry} {ep ep' : Nat} (a : o.data = .dict es ep) (b : o.data = .dict es' ep') : es' = es ∧ ep' = ep := by
  rw [a] at b
  cases b
  exact ⟨rfl, rfl⟩
theorem turn_keysN {P : Program} {w : World} {K : PySem.W.Frag} {tg : Expr} {d : Addr} {o : Obj} {rows : List NRow} {es : Array DictEntry} {ep : Nat} (it : Addr) (hod : o.data = .dict es ep) : Turn P w K tg (ItN P w d o rows) [it] it (fun i h => h.IsKeyIter it d i rows.length ep) where
  mem := List.mem_singleton.mpr rfl
  obj := fun i h st b hb => by
    rw [List.mem_singleton.mp hb]
    obtain ⟨oi, e, c, dd⟩ := st
    exact ⟨oi, e, fun v z => by rw [dd] at z; cases z⟩
  keep := fun i h h' st k => st.at fun oi e => k it (List.mem_singleton.mpr rfl) oi e
  item := by
    intro X eP ew eK hc i pins s σ H E I hf st hg
    subst eP ew eK
    obtain ⟨hd, hi⟩ := hg
    obtain ⟨f0, f1, f2, f3, f4, f5⟩ := hf it (List.mem_singleton.mpr rfl)
    obtain ⟨ho, hx, us, ep', hdt, hp⟩ := frzN I hd
    obtain ⟨e1, e2⟩ := ep_of hod hdt
    subst e2
    have lu : i < us.length := by rw [← hp.length]; exact hi
    have hu := List.getElem?_eq_getElem lu
    obtain ⟨r, hr, _, rk, _⟩ := erow_get hp hu
    refine next_key_item (es := us.toArray) (en := us[i]) st ho hdt (by rw [List.size_toArray, hp.length]) (by simpa using hu) fun h' st' sb => ?_
    have I1 : Inv X pins σ H { s with heap := h' } := I.turned (t' := s.toks) (fun b ob hb e => (sb.2 b hb).trans e) f0 f1 f3 f4 f5
    obtain ⟨oi, e, c, dd⟩ := id st'
    exact ⟨_, rfl, go_of (s := { s with heap := h' }) e c dd (by decide) ⟨r.2.1, H, I1, rk, ⟨rfl, r, hr, rfl⟩, st', fun b hb => (hf b hb).1⟩⟩
  done := by
    intro X eP ew eK hc i pins s σ H E I hf st hg
    subst eP ew eK
    obtain ⟨hd, hi⟩ := hg
    obtain ⟨f0, f1, f2, f3, f4, f5⟩ := hf it (List.mem_singleton.mpr rfl)
    obtain ⟨ho, hx, us, ep', hdt, hp⟩ := frzN I hd
    obtain ⟨e1, e2⟩ := ep_of hod hdt
    subst e2
    exact next_key_end (es := us.toArray) (I.ok.hd hc) st ho hdt (by rw [List.size_toArray, hp.length]) hi fun h' eb => ⟨rfl, I.turned (t' := s.toks) (fun b ob hb e => eb b ob hb e) f0 f1 f3 f4 f5⟩
  self := fun A i s Q E st h => (turn_keysT (P := P) (w := w) (K := K) (tg := tg) (kvs := rows.map fun _ => ([], V.non)) it hod).self A i s Q E (by show s.heap.IsKeyIter it d i (rows.map fun _ => (([] : List L2.Key), V.non)).length ep; rw [List.length_map]; exact st) h
theorem pi_keysN {tg e : Expr} {td : TE} (he : PE X e td) : PI X tg e (iKeysN X.prog X.w td) := by
  refine ⟨fun pins s σ H R I h => ?_⟩
  refine thn (he.run pins s σ H _ I h) fun u s1 ⟨x, H1, I1, rx, d, o, rows, ex, hs, hd, q⟩ => ?_
  subst ex
  obtain rfl : u = Value.ref d := rx
  obtain ⟨ho, hx, us, ep, hdt, hp⟩ := frzN I1 hd
  refine iter_keys hs ho hx hdt (pi_one (tk := s1.toks) I1 _ (turn_keysN _ hdt) ⟨_, Heap.get?_push_size _ rfl, rfl, ?_⟩ q)
  rw [List.size_toArray, hp.length]
  rfl
end
/-! ### d.m(..) of such a dict -/
section
open PySem.Spec PyProof.Rows
variable {X : Cx} {o e : Expr} {es : List Expr} {to : TE} {t : TA} {r : V → List V → Hp → VK → Prop} {name : Str} {id : String} {apos cpos : Pos}
def tBMN (P : Program) (w : World) (r : V → List V → Hp → VK → Prop) (to : TE) (t : TA) : TE := fun ρ H Q => to ρ H fun x H1 => (∃ a rows, x = .ref a ∧ DN P w H1 a rows) ∧ t ρ H1 fun ys H2 => r x ys H2 Q
def tBMN0 (P : Program) (w : World) (r : V → List V → Hp → VK → Prop) (to : TE) : TE := fun ρ H Q => to ρ H fun x H1 => (∃ a rows, x = .ref a ∧ DN P w H1 a rows) ∧ r x [] H1 Q
theorem pe_bmN (pa : PlainAttrs "dict") (slot : Slot "dict" name id) (hty : typeOf (.builtin id) = pure (.type "method_descriptor")) (hm : MtR X id r) (ho : PE X o to) (ha : PA X (e :: es) t)
    (hbase : attributeBase o name X.env (eval o X.env) = eval o X.env := by rfl)
    (hfew : ((backTo cpos (starEach (e :: es) X.env)).all (fun y => !y.1) && (backToKw cpos (keywordEach [] X.env)).all (fun y => y.1.isSome) && decide ((e :: es).length + ([] : List Keyword).length + (if ([] : List Keyword).isEmpty then 0 else 1) < 30)) = true := by rfl)
    (hline : (apos.endLine == cpos.line) = true := by rfl) (hs : starEach (e :: es) X.env = (false, eval e X.env) :: starEach es X.env := by rfl) (hplain : (backTo cpos (starEach es X.env)).any (·.1) = false := by rfl) :
    PE X (.Call (.Attribute o name apos) (e :: es) [] cpos) (tBMN X.prog X.w r to t) := by
  constructor
  intro pns sh ρ H Qv Iv hx
  refine wpAny_Call_method_late hbase hfew hline rfl (thn (ho.run pns sh ρ H _ Iv hx) fun v s1 ⟨x, H1, I1, r1, ⟨a, rows, ex, D⟩, q1⟩ => ?_)
  subst ex
  cases r1
  obtain ⟨_, _, _, ob, _, hob, ⟨oc, od, _⟩, _⟩ := dn_raw I1 D
  refine ⟨"dict", id, pa, slot, hty, ⟨ob, hob, oc⟩, fun b eb => ?_, ?_⟩
  · cases eb
    exact ⟨ob, hob, od⟩
  have hA := ha.run cpos pns s1 ρ H1 _ I1 q1
  rw [hs] at hA ⊢
  refine Calls.callWith_builtin (by show (false || (backTo cpos (starEach es X.env)).any (·.1)) = false; rw [hplain]; rfl) (Calls.evalArgs_plain ?_)
  exact thn hA fun us s2 ⟨vs, H2, I2, r2, q2⟩ => hm pns s2 ρ H2 (.ref a) vs (.ref a) us Qv I2 rfl r2 q2
theorem pe_bmN0 (pa : PlainAttrs "dict") (slot : Slot "dict" name id) (hty : typeOf (.builtin id) = pure (.type "method_descriptor")) (hm : MtR X id r) (ho : PE X o to)
    (hbase : attributeBase o name X.env (eval o X.env) = eval o X.env := by rfl) (hline : (apos.endLine == cpos.line) = true := by rfl) : PE X (.Call (.Attribute o name apos) [] [] cpos) (tBMN0 X.prog X.w r to) := by
  constructor
  intro pns sh ρ H Qv Iv hx
  refine wpAny_Call_method0_late hbase hline (thn (ho.run pns sh ρ H _ Iv hx) fun v s1 ⟨x, H1, I1, r1, ⟨a, rows, ex, D⟩, q1⟩ => ?_)
  subst ex
  cases r1
  obtain ⟨_, _, _, ob, _, hob, ⟨oc, od, _⟩, _⟩ := dn_raw I1 D
  exact ⟨"dict", id, pa, slot, hty, ⟨ob, hob, oc⟩, (fun b eb => by cases eb; exact ⟨ob, hob, od⟩), Calls.callWith_builtin rfl (PySem.evalArgs_none (hm pns s1 ρ H1 (V.ref a) [] (Value.ref a) [] Qv I1 rfl .nil q1))⟩
end
abbrev s_find_candidates : Stmt := top 43
abbrev N_find_candidates : List Str := ["net", "index", "source", "goal", "first", "days", "wait", "ways", "target", "delay", "orders"]
abbrev P_find_candidates : List Str := ["net", "index"]
theorem sc_find_candidates : FnScope N_find_candidates P_find_candidates (defScope s_find_candidates) := ⟨rfl, rfl, rfl, by decide +kernel, rfl, by decide +kernel, by decide +kernel⟩
/-! ### all that a hidden order can be -/
def rowC (s t n : Nat) : List (Nat × Nat) := if t = s then [] else (List.range n).map fun d => (t, d + 1)
def candsL (h s : Nat) : List (Nat × Nat) := (List.range h).flatMap fun t => rowC s t 9
def setO (os : List Od) (k : Nat) (o : Od) (c : Nat × Nat) : List Od := os.take k ++ [⟨o.s, c.1, o.f, o.n, c.2⟩] ++ os.drop (k + 1)
def keyC (c : Nat × Nat) : List Key := [.inl (c.1 : Int), .inl (c.2 : Int)]
theorem keyC_inj {a b : Nat × Nat} (h : keyC a = keyC b) : a = b := by
  unfold keyC at h
  simp at h
  exact Prod.ext (by omega) (by omega)
structure CandsAt (p h : Nat) (os : List Od) (k : Nat) (o : Od) (H : Hp) (w : Addr) (cs : List ((Nat × Nat) × Addr)) : Prop where
  tab : H w = some (.dT (cs.map fun c => (keyC c.1, V.ref c.2)))
  ne : ∀ c ∈ cs, c.2 ≠ w
  ways : ∀ c ∈ cs, ∃ ks f, WaysAt p h (setO os k o c.1) H c.2 ks f ∧ ∀ q, q ∈ ks ↔ q ∈ lets p h
theorem CandsAt.same {p h k : Nat} {os : List Od} {o : Od} {H H' : Hp} {w : Addr} {cs : List ((Nat × Nat) × Addr)} (W : CandsAt p h os k o H w cs) (s : Same H H') : CandsAt p h os k o H' w cs :=
  ⟨s _ _ W.tab, W.ne, fun c hc => by
    obtain ⟨ks, f, a, b⟩ := W.ways c hc
    exact ⟨ks, f, a.same s, b⟩⟩
theorem valC_none {cs : List ((Nat × Nat) × Addr)} {c : Nat × Nat} (h : ∀ x ∈ cs, x.1 ≠ c) : valV (cs.map fun c => (keyC c.1, V.ref c.2)) (keyC c) = none := by
  induction cs with
  | nil => rfl
  | cons x r ih =>
    have h1 := h x (List.mem_cons_self ..)
    have ih := ih fun y hy => h y (List.mem_cons_of_mem _ hy)
    unfold valV at ih ⊢
    rw [List.map_cons, List.find?_cons_of_neg]
    · exact ih
    · intro z
      exact h1 (keyC_inj (of_decide_eq_true z))
theorem CandsAt.put {p h k : Nat} {os : List Od} {o : Od} {H : Hp} {w d : Addr} {cs : List ((Nat × Nat) × Addr)} {c : Nat × Nat} {ks : List (Nat × Nat)} {f : Nat × Nat → V} (W : CandsAt p h os k o H w cs) (hn : ∀ x ∈ cs, x.1 ≠ c) (nd : d ≠ w) (hw : WaysAt p h (setO os k o c) H d ks f) (hk : ∀ q, q ∈ ks ↔ q ∈ lets p h) :
    CandsAt p h os k o (upd H w (.dT (putK (cs.map fun c => (keyC c.1, V.ref c.2)) (keyC c) (.ref d)))) w (cs ++ [(c, d)]) := by
  have tk : TupKeep H (upd H w (.dT (putK (cs.map fun c => (keyC c.1, V.ref c.2)) (keyC c) (.ref d)))) := fun b xs e => (upd_ne (ne_of e W.tab (by intro z; cases z))).trans e
  have up : ∀ {os' : List Od} {e : Addr} {ks : List (Nat × Nat)} {f : Nat × Nat → V}, e ≠ w → WaysAt p h os' H e ks f → WaysAt p h os' (upd H w (.dT (putK (cs.map fun c => (keyC c.1, V.ref c.2)) (keyC c) (.ref d)))) e ks f := fun n a => ⟨(upd_ne n).trans a.tab, a.nd, a.ok, fun q hq => (a.ways q hq).keep tk⟩
  refine ⟨?_, fun x hx => ?_, fun x hx => ?_⟩
  · rw [upd_same, Cp.putK_new (valC_none hn), List.map_append]
    rfl
  · rcases List.mem_append.mp hx with z | z
    · exact W.ne x z
    · rw [List.mem_singleton.mp z]
      exact nd
  · rcases List.mem_append.mp hx with z | z
    · obtain ⟨ks', f', a, b⟩ := W.ways x z
      exact ⟨ks', f', up (W.ne x z) a, b⟩
    · rw [List.mem_singleton.mp z]
      exact ⟨ks, f, up nd hw, hk⟩
theorem set_ok {p h k : Nat} {os : List Od} {o : Od} {c : Nat × Nat} (ok : NetOk p h os) (ho : os[k]? = some o) (h1 : c.1 < h) (h2 : c.1 ≠ o.s) (h3 : 1 ≤ c.2) (h4 : c.2 ≤ 9) : NetOk p h (setO os k o c) := by
  have lt : k < os.length := (List.getElem?_eq_some_iff.mp ho).1
  obtain ⟨a1, a2, a3, a4, a5, a6, a7, a8⟩ := ok.ok o (List.mem_of_getElem? ho)
  have ol := ok.len
  refine ⟨ok.p1, ok.p30, ok.h1, ok.h10, ?_, fun x hx => ?_⟩
  · unfold setO
    rw [List.length_append, List.length_append, List.length_take, List.length_drop]
    show min k os.length + 1 + _ ≤ 20
    omega
  · unfold setO at hx
    rcases List.mem_append.mp hx with z | z
    · rcases List.mem_append.mp z with y | y
      · exact ok.ok x (List.mem_of_mem_take y)
      · rw [List.mem_singleton.mp y]
        exact ⟨a1, h1, fun e => h2 e.symm, a4, a5, a6, h3, h4⟩
    · exact ok.ok x (List.mem_of_mem_drop z)
theorem Paired.dropN {α β : Type} {F : α → β → Prop} : ∀ {xs : List α} {l : List β} (n : Nat), Paired F xs l → Paired F (xs.drop n) (l.drop n)
  | _, _, 0, q => q
  | _, _, _ + 1, .nil => .nil
  | _, _, n + 1, .cons _ t => Paired.dropN n t
theorem rowC_succ {s t n : Nat} (h : t ≠ s) : rowC s t (n + 1) = rowC s t n ++ [(t, n + 1)] := by
  unfold rowC
  rw [if_neg h, if_neg h, List.range_succ, List.map_append]
  rfl
theorem rowC_mem {s t n : Nat} {c : Nat × Nat} (h : c ∈ rowC s t n) : c.1 = t ∧ c.2 ≤ n := by
  unfold rowC at h
  split at h
  · cases h
  · obtain ⟨d, hd, rfl⟩ := List.mem_map.mp h
    have := List.mem_range.mp hd
    exact ⟨rfl, by show d + 1 ≤ n; omega⟩
theorem candsL_mem {s n : Nat} {c : Nat × Nat} (h : c ∈ candsL n s) : c.1 < n := by
  obtain ⟨t, ht, hc⟩ := List.mem_flatMap.mp h
  rw [(rowC_mem hc).1]
  exact List.mem_range.mp ht
theorem candsL_len : ∀ {n s : Nat}, (candsL n s).length ≤ 9 * n
  | 0, _ => Nat.le_refl _
  | n + 1, s => by
    unfold candsL
    rw [List.range_succ, List.flatMap_append, List.length_append]
    have h1 := candsL_len (n := n) (s := s)
    have h2 : ((List.range n).flatMap fun t => rowC s t 9).length ≤ 9 * n := h1
    have h3 : ([n].flatMap fun t => rowC s t 9).length ≤ 9 := by
      rw [List.flatMap_singleton]
      unfold rowC
      split
      · exact Nat.zero_le _
      · rw [List.length_map, List.length_range]
        exact Nat.le_refl _
    omega
def spCands (C : Addr) : Sp := fun vs H Q _ => ∃ (x t : Addr) (p h k : Nat) (os : List Od) (F : List Addr) (o : Od), vs = [.ref x, .int k] ∧ NetAt C H x p h os t F ∧ NetOk p h os ∧ os[k]? = some o ∧
  ∀ H' w cs, Same H H' → H w = none → CandsAt p h os k o H' w cs → cs.map (·.1) = candsL h o.s → Q (.ref w) H'
section
variable {P : Program} {w : World} {K : PySem.W.Frag} {mg : Str → Option Value} {base : Heap}
set_option maxHeartbeats 1000000 in
theorem ok_cands {f C fI : Addr} {fd fdI : FuncData} (F : Fun K "find_candidates" "find_candidates" s_find_candidates f fd) (B : Blt mg) (T : NetT K C) (M : Mk K C fI) (gC : mg "Net" = some (.ref C)) (GI : FnOk P w K mg base CX0 5 fI fdI P_Net_init (spInit C)) (bI : Binds K fdI P_Net_init [])
    (DW : Df P w K mg base "with_order" 1 P_with_order spWith) (DF : Df P w K mg base "find_ways" 4 P_find_ways (spFindWays C)) (hM : ∃ t, mg "LONGEST_DELAY" = some (.int 9 t)) : FnOk P w K mg base CX0 7 f fd P_find_candidates (spCands C) := by
  obtain ⟨fW, fdW, gW, kW, bW, GW⟩ := DW
  obtain ⟨fF, fdF, gF, kF, bF, GF⟩ := DF
  obtain ⟨tM, hM⟩ := hM
  refine F.ok sc_find_candidates (fun vs H Q E h => ?_) (fun cdv A outer s H vs Q E hr h => ?_)
  · obtain ⟨x, t, p, h, k, os, F, o, rfl, _⟩ := h
    rfl
  · obtain ⟨x, t, p, h, k, os, F, o, rfl, N, ok, ho, q⟩ := h
    have hr1 : Room 1 _ := hr.mono (by decide)
    have hr4 : Room 4 _ := hr.mono (by decide)
    have hu : (A.deeper (PyProof.Rows.envOfC "find_candidates" (defScope s_find_candidates) s.heap.objs.size f cdv)).units + 1 < cLine := hu_of hr
    refine ⟨_, pss_cons (ps_asg (pe_ix ix_tup (pe_fld (pv 0) rfl) (pv 1) (fun _ _ => rfl)) (pg_tup (by rfl) (pgs_cons (pg_name (i := 2) sc_find_candidates.nd rfl (.inl rfl)) (pgs_cons (pg_name (i := 3) sc_find_candidates.nd rfl (.inl rfl)) (pgs_cons (pg_name (i := 4) sc_find_candidates.nd rfl (.inl rfl)) (pgs_cons (pg_name (i := 5) sc_find_candidates.nd rfl (.inl rfl)) (pgs_cons (pg_name (i := 6) sc_find_candidates.nd rfl (.inl rfl)) pgs_nil)))))))
      (pss_cons (ps_set (i := 7) sc_find_candidates.nd rfl (.inl rfl) pe_dnewT)
      (pss_cons (ps_for PassesOwn.never rfl (pi_range1 rfl B.range (pa_cons (pe_fld (pv 0) rfl) pa_nil)) (pg_name (i := 8) sc_find_candidates.nd rfl (.inl rfl))
        (pss_one (ps_for PassesOwn.never rfl (pi_range2 rfl B.range (pa_cons pe_int (pa_cons (pe_op op_add (pe_glob (v := .int 9) rfl hM ⟨_, rfl⟩) pe_int) pa_nil))) (pg_name (i := 9) sc_find_candidates.nd rfl (.inl rfl))
          (pss_one (ps_if (pt_cmpR op_ne (pv 8) (pv 2) (nomark _))
            (pss_cons (ps_set (i := 10) sc_find_candidates.nd rfl (.inl rfl) (pe_call GW hr1 (by rfl) gW kW bW .nil pass0 (pa_cons (pe_fld (pv 0) rfl) (pa_cons (pv 1) (pa_cons (pe_tup (pa_cons (pv 2) (pa_cons (pv 8) (pa_cons (pv 4) (pa_cons (pv 5) (pa_cons (pv 9) pa_nil)))))) pa_nil)))))
            (pss_one (ps_dput hu (pv 7) (pe_tup (pa_cons (pv 8) (pa_cons (pv 9) pa_nil))) (pe_call GF hr4 (by rfl) gF kF bF .nil pass0 (pa_cons (pe_make M GI hr (by rfl) gC bI .nil pass0 (pa_cons (pe_fld (pv 0) rfl) (pa_cons (pe_fld (pv 0) rfl) (pa_cons (pv 10) pa_nil)))) pa_nil)) (by rfl)))) pss_nil)))))
      (pss_one (ps_ret (pv 7))))), ?_⟩
    obtain ⟨dx, fl, as, _, hx, ⟨ts, ht, hP⟩, _⟩ := id N
    have p30 := ok.p30; have h10 := ok.h10; have ol := ok.len
    have ltk : k < os.length := (List.getElem?_eq_some_iff.mp ho).1
    obtain ⟨v, hv, u, rfl, hu0⟩ := Paired.get? (i := k) hP ho
    have tl := hP.length
    refine ⟨_, rfl, x, C, dx, _, _, rfl, hx, T.cl, T.nO, nf_or, _, rfl, t, _, (k : Nat), _, rfl, rfl, SqT.of ht, atI_nat hv, ?_⟩
    refine ⟨u, _, rfl, SqT.of hu0, rfl, _, _, rfl, _, _, rfl, _, _, rfl, _, _, rfl, _, _, rfl, rfl, ?_⟩
    refine fun W nW => ?_
    have sW := same_upd (o := HO.dT []) nW
    refine ⟨_, rfl, x, C, dx, _, _, rfl, sW _ _ hx, T.cl, T.nH, nf_ho, (h : Int), rfl, by omega, by omega, ?_⟩
    refine for_range (lo := 0) (n := (h : Int).toNat) (fun i σ H' => ∃ (y8 y9 y10 : Option V) (cs : List ((Nat × Nat) × Addr)), σ = [some (.ref x), some (.int k), some (.int o.s), some (.int o.t), some (.int o.f), some (.int o.n), some (.int o.e), some (.ref W), y8, y9, y10] ∧ Same H H' ∧ CandsAt p h os k o H' W cs ∧ cs.map (·.1) = candsL i o.s)
      ⟨_, _, _, [], rfl, sW, ⟨upd_same, (fun c hc => by cases hc), fun c hc => by cases hc⟩, rfl⟩ ?_ ?_
    · rintro i σ H1 hi ⟨y8, y9, y10, cs, rfl, s1, C1, e1⟩
      rw [show (0 : Int) + (i : Int) = (i : Nat) from Int.zero_add _]
      have hih : i < h := by omega
      refine ⟨_, _, rfl, rfl, 1, 10, rfl, ⟨by decide, by decide, by decide, by decide⟩, ?_⟩
      refine for_range (lo := 1) (n := ((10 : Int) - 1).toNat) (fun j σ H' => ∃ (y9 y10 : Option V) (cs : List ((Nat × Nat) × Addr)), σ = [some (.ref x), some (.int k), some (.int o.s), some (.int o.t), some (.int o.f), some (.int o.n), some (.int o.e), some (.ref W), some (.int (i : Nat)), y9, y10] ∧ Same H H' ∧ CandsAt p h os k o H' W cs ∧ cs.map (·.1) = candsL i o.s ++ rowC o.s i j)
        ⟨_, _, cs, rfl, s1, C1, by rw [e1]; unfold rowC; split <;> exact (List.append_nil _).symm⟩ ?_ ?_
      · rintro j σ H2 hj ⟨y9, y10, cs, rfl, s2, C2, e2⟩
        have hj9 : j < 9 := hj
        rw [show (1 : Int) + (j : Int) = ((j + 1 : Nat) : Int) by omega]
        refine ⟨_, rfl, _, rfl, rfl, _, rfl, ?_⟩
        by_cases c : i = o.s
        · have e : (!decide (V.int (i : Nat) = V.int (o.s : Nat))) = false := by rw [c]; simp
          rw [e]
          refine iteF ⟨_, _, cs, rfl, s2, C2, ?_⟩
          rw [e2]
          unfold rowC
          rw [if_pos c, if_pos c]
        · have e : (!decide (V.int (i : Nat) = V.int (o.s : Nat))) = true := by
            rw [decide_eq_false (fun z => c (by have := V.int.inj z; omega))]
            rfl
          rw [e]
          refine iteT ?_
          have hx2 := s2 _ _ hx
          refine ⟨_, rfl, x, C, dx, _, _, rfl, hx2, T.cl, T.nO, nf_or, _, rfl, _, rfl, _, rfl, _, rfl, _, rfl, _, rfl, (by show 5 ≤ sizeLine; decide), fun u1 nu1 => ?_⟩
          have su := same_upd (o := HO.tup [.int o.s, .int (i : Nat), .int o.f, .int o.n, .int (j + 1 : Nat)]) nu1
          refine ⟨t, k, ts, _, rfl, su _ _ (s2 _ _ ht), by omega, fun H3 t3 s3 ht3 => ?_⟩
          have s23 := su.trans s3
          have hO3 : OrdsTup H3 t3 (setO os k o (i, j + 1)) := ⟨_, ht3, Paired.app (Paired.app (Paired.take (Paired.mapP hP fun _ _ z => z.keep (tk_of (s2.trans s23))) k) (.cons ⟨u1, rfl, s3 _ _ upd_same⟩ .nil)) (Paired.dropN (k + 1) (Paired.mapP hP fun _ _ z => z.keep (tk_of (s2.trans s23))))⟩
          have ok3 : NetOk p h (setO os k o (i, j + 1)) := set_ok ok ho hih c (by show 1 ≤ j + 1; omega) (by show j + 1 ≤ 9; omega)
          have hx3 := s23 _ _ hx2
          have C3 := C2.same s23
          refine ⟨_, rfl, x, C, dx, _, _, rfl, hx3, T.cl, T.nP, nf_pe, _, rfl, x, C, dx, _, _, rfl, hx3, T.cl, T.nH, nf_ho, _, rfl, ?_⟩
          intro x1 dx1 n1 n2 n3
          have s0 : Same H3 (upd (upd H3 dx1 (.own x1)) x1 (.ins C dx1 [])) := same_updN (same_upd n2) n1
          refine ⟨x1, dx1, t3, p, h, setO os k o (i, j + 1), H3, rfl, ok3, hO3.keep (tk_of s0), s0, n1, upd_same, fun H4 F1 s4 nF1 N1 => ⟨rfl, ?_⟩⟩
          refine ⟨x1, t3, p, h, setO os k o (i, j + 1), F1, rfl, N1, ok3, fun H5 d ks f s5 nd hw hk => ?_⟩
          have C5 := C3.same (s4.trans s5)
          have ndw : d ≠ W := (ne_of_none (s4 _ _ C3.tab) nd).symm
          refine ⟨_, rfl, _, rfl, _, rfl, (by show 2 ≤ sizeLine; decide), fun u2 nu2 => ?_⟩
          have su2 := same_upd (o := HO.tup [.int (i : Nat), .int (j + 1 : Nat)]) nu2
          have C6 := C5.same su2
          have hln : cs.length ≤ 100 := by
            have h1 : (cs.map (·.1)).length ≤ 100 := by
              rw [e2, List.length_append]
              have h2 := candsL_len (n := i) (s := o.s)
              have h3 : (rowC o.s i j).length ≤ 9 := by
                unfold rowC
                rw [if_neg c, List.length_map, List.length_range]
                omega
              omega
            rw [List.length_map] at h1
            exact h1
          refine ⟨W, _, rfl, DPut.t (k := keyC (i, j + 1)) C6.tab upd_same (by rw [List.length_map]; exact small1000 (by omega)), ?_⟩
          have hn : ∀ y ∈ cs, y.1 ≠ (i, j + 1) := fun y hy z => by
            have hm : y.1 ∈ cs.map (·.1) := List.mem_map.mpr ⟨y, hy, rfl⟩
            rw [e2, z] at hm
            rcases List.mem_append.mp hm with w1 | w1
            · exact absurd (candsL_mem w1) (Nat.lt_irrefl _)
            · have : j + 1 ≤ j := (rowC_mem w1).2
              omega
          refine ⟨_, _, cs ++ [((i, j + 1), d)], rfl, fun b o1 e3 => ?_, C6.put hn ndw (hw.same su2) hk, ?_⟩
          · rw [upd_ne (ne_of_none e3 nW)]
            exact su2 _ _ (s5 _ _ (s4 _ _ (s23 _ _ (s2 _ _ e3))))
          · rw [List.map_append, e2, rowC_succ c, List.append_assoc]
            rfl
      · rintro σ H2 ⟨y9, y10, cs, rfl, s2, C2, e2⟩
        refine ⟨_, _, _, cs, rfl, s2, C2, ?_⟩
        rw [e2]
        unfold candsL
        rw [List.range_succ, List.flatMap_append, List.flatMap_singleton]
        rfl
    · rintro σ H1 ⟨y8, y9, y10, cs, rfl, s1, C1, e1⟩
      exact ⟨_, rfl, q H1 W cs s1 nW C1 e1⟩
end
abbrev s_check_index : Stmt := top 15
abbrev N_check_index : List Str := ["orders", "index"]
abbrev P_check_index : List Str := ["orders", "index"]
theorem sc_check_index : FnScope N_check_index P_check_index (defScope s_check_index) := ⟨rfl, rfl, rfl, by decide +kernel, rfl, by decide +kernel, by decide +kernel⟩
def spChkIx : Sp := fun vs H Q _ => ∃ (t : Addr) (k : Nat) (ts : List V), vs = [.ref t, .int k] ∧ H t = some (.tup ts) ∧ k < ts.length ∧ Q .non H
section
variable {P : Program} {w : World} {K : PySem.W.Frag} {mg : Str → Option Value} {base : Heap}
theorem ok_chk_ix {f : Addr} {fd : FuncData} (F : Fun K "check_index" "check_index" s_check_index f fd) (B : Blt mg) (DW : Df P w K mg base "is_within" 2 P_is_within (spWithin K)) : FnOk P w K mg base CX0 3 f fd P_check_index spChkIx := by
  obtain ⟨fW, fdW, gW, kW, bW, GW⟩ := DW
  refine F.ok sc_check_index (fun vs H Q E h => ?_) (fun cdv A outer s H vs Q E hr h => ?_)
  · obtain ⟨t, k, ts, rfl, _⟩ := h
    rfl
  · obtain ⟨t, k, ts, rfl, ht, hk, q⟩ := h
    refine ⟨_, pss_one (ps_if (pt_not (pt_val (pe_call GW hr (by rfl) gW kW bW .nil pass0 (pa_cons (pv 1) (pa_cons pe_int (pa_cons (pe_op op_sub (pe_callB call_len_seq (by rfl) B.len PySem.boot_len (pa_cons (pv 0) pa_nil)) pe_int) pa_nil)))))) (pss_one ps_never) pss_nil), ?_⟩
    have e1 : ((ts.length : Int) - 1) = ((ts.length - 1 : Nat) : Int) := by omega
    refine ⟨_, rfl, _, rfl, t, _, rfl, .inr (SqT.of ht), _, _, rfl, rfl, _, 0, ((ts.length - 1 : Nat) : Int), congrArg (fun z : Int => [V.int (k : Nat), V.int 0, V.int z]) e1, .int, _, rfl, ?_⟩
    rw [show withinB (.int (k : Nat)) 0 ((ts.length - 1 : Nat) : Int) = true from within_nat (lo := 0) (by omega) (by omega)]
    exact iteF q
end
abbrev s_Office_init : Stmt := inClass (top 50) 0
abbrev N_Office_init : List Str := ["self", "net"]
abbrev P_Office_init : List Str := ["self", "net"]
theorem sc_Office_init : FnScope N_Office_init P_Office_init (defScope s_Office_init) := ⟨rfl, rfl, rfl, by decide +kernel, rfl, by decide +kernel, by decide +kernel⟩
abbrev s_Office_present_orders : Stmt := inClass (top 50) 7
abbrev N_Office_present_orders : List Str := ["self"]
abbrev P_Office_present_orders : List Str := ["self"]
theorem sc_Office_present_orders : FnScope N_Office_present_orders P_Office_present_orders (defScope s_Office_present_orders) := ⟨rfl, rfl, rfl, by decide +kernel, rfl, by decide +kernel, by decide +kernel⟩
abbrev s_Office_take_step : Stmt := inClass (top 50) 13
abbrev N_Office_take_step : List Str := ["self", "word", "orders"]
abbrev P_Office_take_step : List Str := ["self", "word", "orders"]
theorem sc_Office_take_step : FnScope N_Office_take_step P_Office_take_step (defScope s_Office_take_step) := ⟨rfl, rfl, rfl, by decide +kernel, rfl, by decide +kernel, by decide +kernel⟩
/-! ### an office: its state, its present orders, a step -/
structure OffT (K : PySem.W.Frag) (O : Addr) : Prop where
  cl : Cls K O
  nN : NoAttr K O "net"
  nS : NoAttr K O "steps"
  nE : NoAttr K O "effective"
  nP : NoAttr K O "snapshots"
theorem sSN : ¬ ("steps" : Str) = "net" := by decide +kernel
theorem sEN : ¬ ("effective" : Str) = "net" := by decide +kernel
theorem sPN : ¬ ("snapshots" : Str) = "net" := by decide +kernel
theorem sES : ¬ ("effective" : Str) = "steps" := by decide +kernel
theorem sPS : ¬ ("snapshots" : Str) = "steps" := by decide +kernel
theorem sPE : ¬ ("snapshots" : Str) = "effective" := by decide +kernel
theorem put_len {f : Str} {v w : V} : ∀ {fs : List (Str × V)}, fs.lookup f = some w → (putF f v fs).length = fs.length
  | [], h => by cases h
  | (g, x) :: r, h => by
    by_cases e : g = f
    · subst e
      show (if g = g then _ else _ : List (Str × V)).length = _
      rw [if_pos rfl]
      rfl
    · show (if g = f then _ else _ : List (Str × V)).length = _
      rw [if_neg e]
      have hb : (f == g) = false := beq_eq_false_iff_ne.mpr (Ne.symm e)
      rw [List.lookup_cons, hb] at h
      show (putF f v r).length + 1 = _
      rw [put_len h]
      rfl
structure OfR (fs : List (Str × V)) (x u : Addr) (e : Nat) (sn : Addr) : Prop where
  len : fs.length ≤ 4
  net : fs.lookup ("net" : Str) = some (.ref x)
  st : fs.lookup ("steps" : Str) = some (.ref u)
  ef : fs.lookup ("effective" : Str) = some (.int e)
  sn : fs.lookup ("snapshots" : Str) = some (.ref sn)
  no : ∀ m : Str, ¬ m = "net" → ¬ m = "steps" → ¬ m = "effective" → ¬ m = "snapshots" → fs.lookup m = none
theorem OfR.setS {fs : List (Str × V)} {x u u' : Addr} {e : Nat} {sn : Addr} (R : OfR fs x u e sn) : OfR (putF "steps" (.ref u') fs) x u' e sn :=
  ⟨by rw [put_len R.st]; exact R.len, by rw [lookup_putF, if_neg (Ne.symm sSN)]; exact R.net, by rw [lookup_putF, if_pos rfl], by rw [lookup_putF, if_neg sES]; exact R.ef, by rw [lookup_putF, if_neg sPS]; exact R.sn,
   fun m a b c d => by rw [lookup_putF, if_neg b]; exact R.no m a b c d⟩
theorem OfR.setE {fs : List (Str × V)} {x u : Addr} {e e' : Nat} {sn : Addr} (R : OfR fs x u e sn) : OfR (putF "effective" (.int e') fs) x u e' sn :=
  ⟨by rw [put_len R.ef]; exact R.len, by rw [lookup_putF, if_neg (Ne.symm sEN)]; exact R.net, by rw [lookup_putF, if_neg (Ne.symm sES)]; exact R.st, by rw [lookup_putF, if_pos rfl], by rw [lookup_putF, if_neg sPE]; exact R.sn,
   fun m a b c d => by rw [lookup_putF, if_neg c]; exact R.no m a b c d⟩
theorem ofr_new {x u sn : Addr} : OfR (putF "snapshots" (.ref sn) (putF "effective" (.int (0 : Nat)) (putF "steps" (.ref u) (putF "net" (.ref x) [])))) x u 0 sn := by
  have l1 : ∀ (f : Str) (v : V) (fs : List (Str × V)), (putF f v fs).length ≤ fs.length + 1 := fun f v fs => length_putF f v fs
  refine ⟨?_, ?_, ?_, ?_, ?_, fun m a b c d => ?_⟩
  · have a1 := l1 "snapshots" (.ref sn) (putF "effective" (.int (0 : Nat)) (putF "steps" (.ref u) (putF "net" (.ref x) [])))
    have a2 := l1 "effective" (.int (0 : Nat)) (putF "steps" (.ref u) (putF "net" (.ref x) []))
    have a3 := l1 "steps" (.ref u) (putF "net" (.ref x) [])
    have a4 : (putF "net" (V.ref x) []).length = 1 := rfl
    omega
  · rw [lookup_putF, if_neg (Ne.symm sPN), lookup_putF, if_neg (Ne.symm sEN), lookup_putF, if_neg (Ne.symm sSN), lookup_putF, if_pos rfl]
  · rw [lookup_putF, if_neg (Ne.symm sPS), lookup_putF, if_neg (Ne.symm sES), lookup_putF, if_pos rfl]
  · rw [lookup_putF, if_neg (Ne.symm sPE), lookup_putF, if_pos rfl]
  · rw [lookup_putF, if_pos rfl]
  · rw [lookup_putF, if_neg d, lookup_putF, if_neg c, lookup_putF, if_neg b, lookup_putF, if_neg a]
    rfl
abbrev Stp := Str × List Od
def StepV (H : Hp) (v : V) (s : Stp) : Prop := ∃ a t, v = .ref a ∧ H a = some (.tup [.str s.1, .ref t]) ∧ OrdsTup H t s.2
theorem StepV.keep {H H' : Hp} {v : V} {s : Stp} (k : TupKeep H H') (h : StepV H v s) : StepV H' v s := by
  obtain ⟨a, t, rfl, ha, ho⟩ := h
  exact ⟨a, t, rfl, k _ _ ha, ho.keep k⟩
/-- the orders in effect -/
def curO (os : List Od) (st : List Stp) (e : Nat) : List Od := if e = 0 then os else ((st[e - 1]?).map (·.2)).getD os
structure OffS where
  x : Addr
  t : Addr
  p : Nat
  h : Nat
  os : List Od
  F : List Addr
  st : List Stp
  e : Nat
  sn : Addr
def OffS.cur (S : OffS) : List Od := curO S.os S.st S.e
def OffAt (O C : Addr) (H : Hp) (o : Addr) (S : OffS) : Prop := ∃ dx fs u vs, H o = some (.ins O dx fs) ∧ OfR fs S.x u S.e S.sn ∧ H u = some (.tup vs) ∧ Paired (StepV H) vs S.st ∧ S.e ≤ S.st.length ∧ NetAt C H S.x S.p S.h S.os S.t S.F ∧ o ∉ S.F
theorem tk_ins {H H' : Hp} {o O dx : Addr} {fs : List (Str × V)} (b : But o H H') (h : H o = some (.ins O dx fs)) : TupKeep H H' := fun a xs e => b a _ (ne_of e h (by intro z; cases z)) e
theorem OffAt.same {O C : Addr} {H H' : Hp} {o : Addr} {S : OffS} (A : OffAt O C H o S) (s : Same H H') : OffAt O C H' o S := by
  obtain ⟨dx, fs, u, vs, h1, R, h2, hP, h3, N, h4⟩ := A
  exact ⟨dx, fs, u, vs, s _ _ h1, R, s _ _ h2, Paired.mapP hP fun _ _ z => z.keep (tk_of s), h3, N.same s, h4⟩
theorem OffAt.but {O C : Addr} {H H' : Hp} {o d : Addr} {S : OffS} (A : OffAt O C H o S) (b : But d H H') (k : TupKeep H H') (n1 : o ≠ d) (n2 : d ∉ S.F) : OffAt O C H' o S := by
  obtain ⟨dx, fs, u, vs, h1, R, h2, hP, h3, N, h4⟩ := A
  exact ⟨dx, fs, u, vs, b _ _ n1 h1, R, k _ _ h2, Paired.mapP hP fun _ _ z => z.keep k, h3, N.but b k n2, h4⟩
def spOInit (O C : Addr) : Sp := fun vs H Q _ => ∃ (o dx x t : Addr) (p h : Nat) (os : List Od) (F : List Addr) (H0 : Hp), vs = [.ref o, .ref x] ∧ NetAt C H0 x p h os t F ∧ Same H0 H ∧ H0 o = none ∧ H o = some (.ins O dx []) ∧
  ∀ H' sn, Same H0 H' → OffAt O C H' o ⟨x, t, p, h, os, F, [], 0, sn⟩ → Q .non H'
def spPres (O C : Addr) : Sp := fun vs H Q _ => ∃ (o : Addr) (S : OffS), vs = [.ref o] ∧ OffAt O C H o S ∧ ∀ t', OrdsTup H t' S.cur → Q (.ref t') H
def spTake (O C : Addr) : Sp := fun vs H Q _ => ∃ (o t' : Addr) (w : Str) (os' : List Od) (S : OffS), vs = [.ref o, .str w, .ref t'] ∧ OffAt O C H o S ∧ S.st.length ≤ 900 ∧ OrdsTup H t' os' ∧
  ∀ H', But o H H' → OffAt O C H' o { S with st := S.st.take S.e ++ [(w, os')], e := S.e + 1 } → Q .non H'
section
variable {P : Program} {w : World} {K : PySem.W.Frag} {mg : Str → Option Value} {base : Heap}
theorem ok_off_init {f O C : Addr} {fd : FuncData} (F : Fun K "__init__" "Office.__init__" s_Office_init f fd) (T : OffT K O) : FnOk P w K mg base CX0 1 f fd P_Office_init (spOInit O C) := by
  refine F.ok sc_Office_init (fun vs H Q E h => ?_) (fun cdv A outer s H vs Q E hr h => ?_)
  · obtain ⟨o, dx, x, t, p, h, os, F, H0, rfl, _⟩ := h
    rfl
  · obtain ⟨o, dx, x, t, p, h, os, F, H0, rfl, Nt, s0, o0, ho, q⟩ := h
    refine ⟨_, pss_cons (ps_fld (pv 0) (pv 1) rfl) (pss_cons (ps_fld (pv 0) (pe_tup pa_nil) rfl) (pss_cons (ps_fld (pv 0) pe_int rfl) (pss_one (ps_fld (pv 0) pe_dnewK rfl)))), ?_⟩
    refine ⟨_, rfl, _, rfl, o, O, dx, [], rfl, ho, T.cl, T.nN, (by show 0 < 1000; decide), ?_⟩
    refine ⟨(by show 0 ≤ sizeLine; decide), fun u nu => ⟨_, rfl, o, O, dx, putF "net" (.ref x) [], rfl, ?_, T.cl, T.nS, (by show 1 < 1000; decide), ?_⟩⟩
    · rw [upd_ne (fun z => by rw [← z, upd_same] at nu; cases nu), upd_same]
    have nou : o ≠ u := fun z => by
      rw [← z, upd_same] at nu
      cases nu
    have nuH : H u = none := by
      rw [upd_ne (Ne.symm nou)] at nu
      exact nu
    have l1 : (putF "steps" (V.ref u) (putF "net" (V.ref x) [])).length ≤ 2 := length_putF "steps" (V.ref u) (putF "net" (V.ref x) [])
    refine ⟨_, rfl, o, O, dx, _, rfl, upd_same, T.cl, T.nE, by omega, ?_⟩
    have l2 : (putF "effective" (V.int 0) (putF "steps" (V.ref u) (putF "net" (V.ref x) []))).length ≤ 3 := Nat.le_trans (length_putF "effective" (V.int 0) (putF "steps" (V.ref u) (putF "net" (V.ref x) []))) (by omega)
    refine fun d nd => ⟨_, rfl, o, O, dx, _, rfl, (upd_ne (fun z => by rw [← z, upd_same] at nd; cases nd)).trans upd_same, T.cl, T.nP, by omega, ?_⟩
    have nod : o ≠ d := fun z => by
      rw [← z, upd_same] at nd
      cases nd
    have nud : u ≠ d := fun z => by
      rw [← z, upd_ne (Ne.symm nou), upd_ne (Ne.symm nou), upd_same] at nd
      cases nd
    have ndH : H d = none := by
      rw [upd_ne (Ne.symm nod), upd_ne (Ne.symm nod), upd_ne (Ne.symm nud), upd_ne (Ne.symm nod)] at nd
      exact nd
    refine q _ d ?_ ?_
    · intro b z e
      have e1 := s0 _ _ e
      have b1 : b ≠ o := ne_of_none e o0
      rw [upd_ne b1, upd_ne (ne_of_none e1 ndH), upd_ne b1, upd_ne b1, upd_ne (ne_of_none e1 nuH), upd_ne b1]
      exact e1
    · refine ⟨dx, _, u, [], upd_same, ofr_new, ?_, .nil, Nat.le_refl _, Nt.same ?_, Nt.new o0⟩
      · rw [upd_ne (Ne.symm nou), upd_ne nud, upd_ne (Ne.symm nou), upd_ne (Ne.symm nou), upd_same]
      · intro b z e
        have e1 := s0 _ _ e
        have b1 : b ≠ o := ne_of_none e o0
        rw [upd_ne b1, upd_ne (ne_of_none e1 ndH), upd_ne b1, upd_ne b1, upd_ne (ne_of_none e1 nuH), upd_ne b1]
        exact e1
theorem ok_pres {f O C : Addr} {fd : FuncData} (F : Fun K "present_orders" "Office.present_orders" s_Office_present_orders f fd) (T : OffT K O) (TN : NetT K C) : FnOk P w K mg base CX0 1 f fd P_Office_present_orders (spPres O C) := by
  refine F.ok sc_Office_present_orders (fun vs H Q E h => ?_) (fun cdv A outer s H vs Q E hr h => ?_)
  · obtain ⟨o, S, rfl, _⟩ := h
    rfl
  · obtain ⟨o, S, rfl, ⟨dx, fs, u, vs, ho, R, hu, hP, he, N, no⟩, q⟩ := h
    refine ⟨_, pss_cons (ps_if (pt_cmpR op_eq (pe_fld (pv 0) rfl) pe_int (nomark _)) (pss_one (ps_ret (pe_fld (pe_fld (pv 0) rfl) rfl))) pss_nil)
      (pss_one (ps_ret (pe_ix ix_tup (pe_ix ix_tup (pe_fld (pv 0) rfl) (pe_op op_sub (pe_fld (pv 0) rfl) pe_int) (fun _ _ => rfl)) pe_int (fun _ _ => rfl)))), ?_⟩
    obtain ⟨dx2, fl, as, _, hx, hO, _⟩ := id N
    refine ⟨_, rfl, o, O, dx, fs, _, rfl, ho, T.cl, T.nE, R.ef, rfl, _, rfl, ite2 (fun c => ?_) (fun c => ?_)⟩
    · have e0 : S.e = 0 := by
        have := V.int.inj (of_decide_eq_true c)
        omega
      refine ⟨_, rfl, o, O, dx, fs, _, rfl, ho, T.cl, T.nN, R.net, S.x, C, dx2, _, _, rfl, hx, TN.cl, TN.nO, nf_or, q S.t ?_⟩
      unfold OffS.cur curO
      rw [if_pos e0]
      exact hO
    · have e1 : S.e ≠ 0 := fun z => c (decide_eq_true (by rw [z]; rfl))
      have lt : S.e - 1 < S.st.length := by omega
      have es := List.getElem?_eq_getElem lt
      obtain ⟨v, hv, a, t', rfl, ha, ho'⟩ := Paired.get? (i := S.e - 1) hP es
      have ee : ((S.e : Int) - 1) = ((S.e - 1 : Nat) : Int) := by omega
      refine ⟨_, rfl, o, O, dx, fs, _, rfl, ho, T.cl, T.nS, R.st, _, rfl, o, O, dx, fs, _, rfl, ho, T.cl, T.nE, R.ef, _, _, rfl, rfl, u, vs, ((S.e - 1 : Nat) : Int), _, rfl, congrArg V.int ee, SqT.of hu, atI_nat (j := S.e - 1) hv, ?_⟩
      refine ⟨a, _, 1, _, rfl, rfl, SqT.of ha, atI_nat (j := 1) rfl, q t' ?_⟩
      unfold OffS.cur curO
      rw [if_neg e1, es]
      exact ho'
theorem ok_take {f O C : Addr} {fd : FuncData} (F : Fun K "take_step" "Office.take_step" s_Office_take_step f fd) (T : OffT K O) : FnOk P w K mg base CX0 1 f fd P_Office_take_step (spTake O C) := by
  refine F.ok sc_Office_take_step (fun vs H Q E h => ?_) (fun cdv A outer s H vs Q E hr h => ?_)
  · obtain ⟨o, t', w, os', S, rfl, _⟩ := h
    rfl
  · obtain ⟨o, t', w', os', S, rfl, ⟨dx, fs, u, vs, ho, R, hu, hP, he, N, no⟩, hl, hO, q⟩ := h
    refine ⟨_, pss_cons (ps_fld (pv 0) (pe_op op_catA (pe_slice sl_tupA (pe_fld (pv 0) rfl) po_none (po_some (pe_fld (pv 0) rfl))) (pe_tup (pa_cons (pe_tup (pa_cons (pv 1) (pa_cons (pv 2) pa_nil))) pa_nil))) rfl)
      (pss_one (ps_fldaug (pv 0) pe_int iop_add)), ?_⟩
    refine ⟨_, rfl, o, O, dx, fs, _, rfl, ho, T.cl, T.nS, R.st, _, rfl, o, O, dx, fs, _, rfl, ho, T.cl, T.nE, R.ef, (S.e : Nat), rfl, ?_⟩
    refine slA_case hu fun b1 H1 s1 hb1 => ?_
    rw [cut_to] at hb1
    refine ⟨_, rfl, _, rfl, (by show 2 ≤ sizeLine; decide), fun a1 na1 => ?_⟩
    have s2 := same_upd (o := HO.tup [.str w', .ref t']) na1
    have ha1 : (upd H1 a1 (.tup [.str w', .ref t'])) a1 = some (.tup [.str w', .ref t']) := upd_same
    have hb2 := s2 _ _ hb1
    generalize (upd H1 a1 (.tup [.str w', .ref t'])) = H2 at s2 ha1 hb2
    refine ⟨(by show 1 ≤ sizeLine; decide), fun a2 na2 => ?_⟩
    have s3 := same_upd (o := HO.tup [.ref a1]) na2
    have ha2 : (upd H2 a2 (.tup [.ref a1])) a2 = some (.tup [.ref a1]) := upd_same
    have hb3 := s3 _ _ hb2
    have ha13 := s3 _ _ ha1
    generalize (upd H2 a2 (.tup [.ref a1])) = H3 at s3 ha2 hb3 ha13
    have hlt : (vs.take S.e).length + 1 ≤ sizeLine := by
      rw [List.length_take, hP.length]
      exact Nat.le_of_lt (small1000 (by omega))
    refine catA_case hb3 ha2 hlt fun c H4 s4 hc => ?_
    have sA := s1.trans (s2.trans (s3.trans s4))
    have ho4 := sA _ _ ho
    refine ⟨_, rfl, o, O, dx, fs, rfl, ho4, T.cl, T.nS, by have := R.len; omega, ?_⟩
    refine ⟨_, rfl, o, O, dx, _, _, rfl, upd_same, T.cl, T.nE, R.setS.ef, _, _, rfl, rfl, dx, _, upd_same, by have := (R.setS (u' := c)).len; omega, ?_⟩
    rw [upd_upd]
    have R2 := (R.setS (u' := c)).setE (e' := S.e + 1)
    have bO : But o H (upd H4 o (.ins O dx (putF "effective" (.int ((S.e + 1 : Nat) : Int)) (putF "steps" (.ref c) fs)))) := fun b z n e => by
      rw [upd_ne n]
      exact sA _ _ e
    have k : TupKeep H4 (upd H4 o (.ins O dx (putF "effective" (.int ((S.e + 1 : Nat) : Int)) (putF "steps" (.ref c) fs)))) := fun b xs e => by
      rw [upd_ne (ne_of e ho4 (by intro z; cases z))]
      exact e
    refine q _ bO ⟨dx, _, c, _, upd_same, R2, k _ _ hc, ?_, ?_, (N.same sA).but But.upd k no, no⟩
    · refine Paired.app (Paired.take (Paired.mapP hP fun _ _ z => (z.keep (tk_of sA)).keep k) S.e) (.cons ⟨a1, t', rfl, k _ _ (s4 _ _ ha13), (hO.keep (tk_of sA)).keep k⟩ .nil)
    · show S.e + 1 ≤ (S.st.take S.e ++ [(w', os')]).length
      rw [List.length_append, List.length_take, List.length_singleton]
      omega
end
abbrev s_Office_cancel : Stmt := inClass (top 50) 2
abbrev N_Office_cancel : List Str := ["self", "index", "orders"]
abbrev P_Office_cancel : List Str := ["self", "index"]
theorem sc_Office_cancel : FnScope N_Office_cancel P_Office_cancel (defScope s_Office_cancel) := ⟨rfl, rfl, rfl, by decide +kernel, rfl, by decide +kernel, by decide +kernel⟩
/-! ### cancel -/
def spCancel (O C : Addr) : Sp := fun vs H Q _ => ∃ (o : Addr) (k : Nat) (S : OffS), vs = [.ref o, .int k] ∧ OffAt O C H o S ∧ S.st.length ≤ 900 ∧ k < S.cur.length ∧ S.cur.length ≤ 20 ∧
  ∀ H' v od, But o H H' → S.cur[k]? = some od → OrdAt H' v od → OffAt O C H' o { S with st := S.st.take S.e ++ [(("cancel" : Str), wo S.cur k)], e := S.e + 1 } → Q v H'
section
variable {P : Program} {w : World} {K : PySem.W.Frag} {mg : Str → Option Value} {base : Heap}
theorem ok_cancel {f O C pP fP fT : Addr} {fd fdP fdT : FuncData} (F : Fun K "cancel" "Office.cancel" s_Office_cancel f fd) (T : OffT K O) (pO : PropOf K O "present_orders" pP fP) (GP : FnOk P w K mg base CX0 1 fP fdP P_Office_present_orders (spPres O C)) (bP : Binds K fdP P_Office_present_orders [])
    (mT : Meth K O "take_step" fT) (GT : FnOk P w K mg base CX0 1 fT fdT P_Office_take_step (spTake O C)) (bT : Binds K fdT P_Office_take_step [])
    (DI : Df P w K mg base "check_index" 3 P_check_index spChkIx) (DO : Df P w K mg base "without_order" 1 P_without_order spWo) : FnOk P w K mg base CX0 4 f fd P_Office_cancel (spCancel O C) := by
  obtain ⟨fI, fdI, gI, kI, bI, GI⟩ := DI
  obtain ⟨fO, fdO, gO, kO, bO, GO⟩ := DO
  refine F.ok sc_Office_cancel (fun vs H Q E h => ?_) (fun cdv A outer s H vs Q E hr h => ?_)
  · obtain ⟨o, k, S, rfl, _⟩ := h
    rfl
  · obtain ⟨o, k, S, rfl, A, hl, hk, h20, q⟩ := h
    have hr1 : Room 1 _ := hr.mono (by decide)
    have hr2 : Room 2 _ := hr.mono (by decide)
    refine ⟨_, pss_cons (ps_set (i := 2) sc_Office_cancel.nd rfl (.inl rfl) (pe_prop (pv 0) T.cl pO GP hr2 bP .nil pass0 rfl))
      (pss_cons (ps_expr (pe_call GI hr (by rfl) gI kI bI .nil pass0 (pa_cons (pv 2) (pa_cons (pv 1) pa_nil))))
      (pss_cons (ps_expr (pe_meth (pv 0) T.cl mT GT hr1 bT .nil pass0 (pa_cons pe_str (pa_cons (pe_call GO hr1 (by rfl) gO kO bO .nil pass0 (pa_cons (pv 2) (pa_cons (pv 1) pa_nil))) pa_nil))))
      (pss_one (ps_ret (pe_ix ix_tup (pv 2) (pv 1) (fun _ _ => rfl)))))), ?_⟩
    obtain ⟨dx, fs, u, vs, ho, R, _⟩ := id A
    refine ⟨_, rfl, o, dx, fs, rfl, ho, o, S, rfl, A, fun t hO => ?_⟩
    obtain ⟨ts, ht, hP⟩ := id hO
    have tl := hP.length
    refine ⟨_, rfl, _, rfl, t, k, ts, rfl, ht, by omega, ?_⟩
    refine ⟨_, rfl, o, dx, fs, rfl, ho, R.no _ (by decide +kernel) (by decide +kernel) (by decide +kernel) (by decide +kernel), ?_⟩
    refine ⟨_, rfl, _, rfl, t, k, ts, rfl, ht, by omega, fun H1 c s1 hc => ?_⟩
    have hO1 := hO.keep (tk_of s1)
    refine ⟨o, c, _, wo S.cur k, S, rfl, A.same s1, hl, ⟨_, hc, Paired.app (Paired.take (OrdsAt.keep (tk_of s1) hP) k) (pair_drop (OrdsAt.keep (tk_of s1) hP) (k + 1))⟩, fun H2 b2 A2 => ?_⟩
    have ei := List.getElem?_eq_getElem hk
    obtain ⟨v, hv, hvo⟩ := Paired.get? (i := k) hP ei
    have kk := (tk_of s1)
    have k2 : TupKeep H1 H2 := tk_ins b2 (s1 _ _ ho)
    refine ⟨_, rfl, _, rfl, t, ts, k, v, rfl, rfl, SqT.of (k2 _ _ (kk _ _ ht)), atI_nat (j := k) hv, ?_⟩
    exact q H2 v _ (fun b z n e => b2 b z n (s1 _ _ e)) ei ((hvo.keep kk).keep k2) A2
end
abbrev s_Watcher_init : Stmt := inClass (top 42) 0
abbrev N_Watcher_init : List Str := ["self", "net", "index"]
abbrev P_Watcher_init : List Str := ["self", "net", "index"]
theorem sc_Watcher_init : FnScope N_Watcher_init P_Watcher_init (defScope s_Watcher_init) := ⟨rfl, rfl, rfl, by decide +kernel, rfl, by decide +kernel, by decide +kernel⟩
/-! ### a watcher: its state -/
structure WatT (K : PySem.W.Frag) (O : Addr) : Prop where
  cl : Cls K O
  nN : NoAttr K O "net"
  nW : NoAttr K O "ways"
  nR : NoAttr K O "remaining"
  nA : NoAttr K O "accepted"
def WtFs (x w r a : Addr) : List (Str × V) := [("net", .ref x), ("ways", .ref w), ("remaining", .ref r), ("accepted", .ref a)]
theorem wf_n {x w r a : Addr} : (WtFs x w r a).lookup ("net" : Str) = some (.ref x) := by
  unfold WtFs
  rw [List.lookup_cons, beq_self_eq_true]
theorem w_ne : (("ways" : Str) == "net") = false ∧ (("remaining" : Str) == "net") = false ∧ (("remaining" : Str) == "ways") = false ∧ (("accepted" : Str) == "net") = false ∧ (("accepted" : Str) == "ways") = false ∧ (("accepted" : Str) == "remaining") = false := by decide +kernel
theorem wf_w {x w r a : Addr} : (WtFs x w r a).lookup ("ways" : Str) = some (.ref w) := by
  unfold WtFs
  rw [List.lookup_cons, w_ne.1]
  show (List.lookup ("ways" : Str) _) = _
  rw [List.lookup_cons, beq_self_eq_true]
theorem wf_r {x w r a : Addr} : (WtFs x w r a).lookup ("remaining" : Str) = some (.ref r) := by
  unfold WtFs
  rw [List.lookup_cons, w_ne.2.1]
  show (List.lookup ("remaining" : Str) _) = _
  rw [List.lookup_cons, w_ne.2.2.1]
  show (List.lookup ("remaining" : Str) _) = _
  rw [List.lookup_cons, beq_self_eq_true]
theorem wf_a {x w r a : Addr} : (WtFs x w r a).lookup ("accepted" : Str) = some (.ref a) := by
  unfold WtFs
  rw [List.lookup_cons, w_ne.2.2.2.1]
  show (List.lookup ("accepted" : Str) _) = _
  rw [List.lookup_cons, w_ne.2.2.2.2.1]
  show (List.lookup ("accepted" : Str) _) = _
  rw [List.lookup_cons, w_ne.2.2.2.2.2]
  show (List.lookup ("accepted" : Str) _) = _
  rw [List.lookup_cons, beq_self_eq_true]
/-- one observation: the letter and its result -/
abbrev Obs := (Nat × Nat) × Option (Nat × Nat)
def ObsAt (H : Hp) (v : V) (b : Obs) : Prop := ∃ u y, v = .ref u ∧ H u = some (.tup [.int b.1.1, .int b.1.2, y]) ∧ OptStop H y b.2
theorem ObsAt.keep {H H' : Hp} {v : V} {b : Obs} (k : TupKeep H H') (q : ObsAt H v b) : ObsAt H' v b := by
  obtain ⟨u, y, e, h1, h2⟩ := q
  exact ⟨u, y, e, k _ _ h1, h2.keep k⟩
structure WatS where
  x : Addr
  t : Addr
  p : Nat
  h : Nat
  os : List Od
  F : List Addr
  k : Nat
  o : Od
  w : Addr
  cs : List ((Nat × Nat) × Addr)
  r : Addr
  rem : List (Nat × Nat)
  a : Addr
  acc : List Obs
structure WatAt (O C : Addr) (H : Hp) (s : Addr) (S : WatS) : Prop where
  ins : ∃ dx, H s = some (.ins O dx (WtFs S.x S.w S.r S.a))
  net : NetAt C H S.x S.p S.h S.os S.t S.F
  ok : NetOk S.p S.h S.os
  ord : S.os[S.k]? = some S.o
  ways : CandsAt S.p S.h S.os S.k S.o H S.w S.cs
  all : S.cs.map (·.1) = candsL S.h S.o.s
  rem : ∃ vs, H S.r = some (.lst vs) ∧ Paired (StopAt H) vs S.rem
  sub : ∀ c ∈ S.rem, c ∈ candsL S.h S.o.s
  acc : ∃ vs, H S.a = some (.lst vs) ∧ Paired (ObsAt H) vs S.acc
theorem WatAt.same {O C : Addr} {H H' : Hp} {s : Addr} {S : WatS} (A : WatAt O C H s S) (e : Same H H') : WatAt O C H' s S := by
  obtain ⟨⟨dx, h1⟩, h2, h3, h4, h5, h6, ⟨rv, h7, h8⟩, h9, ⟨av, h10, h11⟩⟩ := A
  exact ⟨⟨dx, e _ _ h1⟩, h2.same e, h3, h4, h5.same e, h6, ⟨rv, e _ _ h7, Paired.mapP h8 fun _ _ z => z.keep (tk_of e)⟩, h9, ⟨av, e _ _ h10, Paired.mapP h11 fun _ _ z => z.keep (tk_of e)⟩⟩
theorem TupKeep.ins {H : Hp} {s O dx : Addr} {fs : List (Str × V)} {u : HO} (hs : H s = some (.ins O dx fs)) : TupKeep H (upd H s u) := fun b xs e => (upd_ne (ne_of e hs (by intro z; cases z))).trans e
theorem CandsAt.ins {p h k : Nat} {os : List Od} {o : Od} {H : Hp} {w s O dx : Addr} {fs : List (Str × V)} {u : HO} {cs : List ((Nat × Nat) × Addr)} (W : CandsAt p h os k o H w cs) (hs : H s = some (.ins O dx fs)) : CandsAt p h os k o (upd H s u) w cs :=
  ⟨(upd_ne (ne_of W.tab hs (by intro z; cases z))).trans W.tab, W.ne, fun c hc => by
    obtain ⟨ks, f, a, b⟩ := W.ways c hc
    exact ⟨ks, f, ⟨(upd_ne (ne_of a.tab hs (by intro z; cases z))).trans a.tab, a.nd, a.ok, fun q hq => (a.ways q hq).keep (.ins hs)⟩, b⟩⟩
theorem keys_stops {H : Hp} {cs : List ((Nat × Nat) × Addr)} {bs : List Addr} (h : IsKeys H (cs.map fun c => (keyC c.1, V.ref c.2)) bs) : Paired (StopAt H) (bs.map V.ref) (cs.map (·.1)) := by
  unfold IsKeys at h
  induction cs generalizing bs with
  | nil =>
    cases h
    exact .nil
  | cons c r ih =>
    cases h with
    | cons q t => exact .cons ⟨_, rfl, q⟩ (ih t)
def spWInit (O C : Addr) : Sp := fun vs H Q _ => ∃ (s dx x t : Addr) (p h k : Nat) (os : List Od) (F : List Addr) (o : Od) (H0 : Hp), vs = [.ref s, .ref x, .int k] ∧ NetAt C H0 x p h os t F ∧ NetOk p h os ∧ os[k]? = some o ∧ Same H0 H ∧ H0 s = none ∧ H s = some (.ins O dx []) ∧
  ∀ H' w cs r a, Same H0 H' → H0 r = none → H0 a = none → WatAt O C H' s ⟨x, t, p, h, os, F, k, o, w, cs, r, candsL h o.s, a, []⟩ → Q .non H'
def spWCands (O C : Addr) : Sp := fun vs H Q _ => ∃ (s : Addr) (S : WatS), vs = [.ref s] ∧ WatAt O C H s S ∧ ∀ H' r vs', Same H H' → H r = none → H' r = some (.lst vs') → Paired (StopAt H') vs' S.rem → Q (.ref r) H'
def spWHist (O C : Addr) : Sp := fun vs H Q _ => ∃ (s : Addr) (S : WatS), vs = [.ref s] ∧ WatAt O C H s S ∧ ∀ H' r vs', Same H H' → H r = none → H' r = some (.lst vs') → Paired (ObsAt H') vs' S.acc → Q (.ref r) H'
section
variable {P : Program} {w : World} {K : PySem.W.Frag} {mg : Str → Option Value} {base : Heap}
theorem wt_put {x w r a : Addr} : putF "accepted" (V.ref a) (putF "remaining" (V.ref r) (putF "ways" (V.ref w) (putF "net" (V.ref x) []))) = WtFs x w r a := by
  have h1 : ¬ ("net" : Str) = "ways" := by decide +kernel
  have h2 : ¬ ("net" : Str) = "remaining" := by decide +kernel
  have h3 : ¬ ("ways" : Str) = "remaining" := by decide +kernel
  have h4 : ¬ ("net" : Str) = "accepted" := by decide +kernel
  have h5 : ¬ ("ways" : Str) = "accepted" := by decide +kernel
  have h6 : ¬ ("remaining" : Str) = "accepted" := by decide +kernel
  simp only [putF, if_neg h1, if_neg h2, if_neg h3, if_neg h4, if_neg h5, if_neg h6]
  rfl
theorem wt_put_w {x w : Addr} : (putF "ways" (V.ref w) (putF "net" (V.ref x) [])).lookup ("ways" : Str) = some (.ref w) := by
  rw [lookup_putF, if_pos rfl]
theorem ok_w_init {f O C : Addr} {fd : FuncData} (F : Fun K "__init__" "Watcher.__init__" s_Watcher_init f fd) (hcB : mg "list" = none) (T : WatT K O) (TN : NetT K C) (DX : Df P w K mg base "check_index" 3 P_check_index spChkIx) (DC : Df P w K mg base "find_candidates" 7 P_find_candidates (spCands C)) :
    FnOk P w K mg base CX0 8 f fd P_Watcher_init (spWInit O C) := by
  obtain ⟨fX, fdX, gX, kX, bX, GX⟩ := DX
  obtain ⟨fC, fdC, gC, kC, bC, GC⟩ := DC
  refine F.ok sc_Watcher_init (fun vs H Q E h => ?_) (fun cdv A outer s0 H vs Q E hr h => ?_)
  · obtain ⟨s, dx, x, t, p, h, k, os, F, o, H0, rfl, _⟩ := h
    rfl
  · obtain ⟨s, dx, x, t, p, h, k, os, F, o, H0, rfl, N, ok, ho, sH, s0n, hs, q⟩ := h
    have hr3 : Room 3 _ := hr.mono (by decide)
    refine ⟨_, pss_cons (ps_expr (pe_call GX hr3 (by rfl) gX kX bX .nil pass0 (pa_cons (pe_fld (pv 1) rfl) (pa_cons (pv 2) pa_nil))))
      (pss_cons (ps_fld (pv 0) (pv 1) rfl)
      (pss_cons (ps_fld (pv 0) (pe_call GC hr (by rfl) gC kC bC .nil pass0 (pa_cons (pv 1) (pa_cons (pv 2) pa_nil))) rfl)
      (pss_cons (ps_fld (pv 0) (pe_callTy (call_list_dT rfl) (by rfl) hcB (by decide +kernel) (pa_cons (pe_fld (pv 0) rfl) pa_nil)) rfl)
      (pss_one (ps_fld (pv 0) (pe_lst pa_nil) rfl))))), ?_⟩
    have N1 := N.same sH
    obtain ⟨dx0, fl, as, _, hx, ⟨ts, ht, hP⟩, _⟩ := id N1
    have lt : k < ts.length := by
      rw [hP.length]
      exact (List.getElem?_eq_some_iff.mp ho).1
    have up : ∀ {H1 : Hp} {u : HO}, Same H0 H1 → Same H0 (upd H1 s u) := fun e b z h1 => (upd_ne (ne_of_none h1 s0n)).trans (e b z h1)
    refine ⟨_, rfl, x, C, dx0, _, _, rfl, hx, TN.cl, TN.nO, nf_or, _, rfl, t, k, ts, rfl, ht, lt, ?_⟩
    refine ⟨_, rfl, _, rfl, s, O, dx, [], rfl, hs, T.cl, T.nN, (by show 0 < 1000; decide), ?_⟩
    have sA := up (u := .ins O dx (putF "net" (.ref x) [])) sH
    have hsA : (upd H s (.ins O dx (putF "net" (.ref x) []))) s = some (.ins O dx (putF "net" (.ref x) [])) := upd_same
    generalize (upd H s (.ins O dx (putF "net" (.ref x) []))) = HA at sA hsA
    refine ⟨_, rfl, _, rfl, x, t, p, h, k, os, F, o, rfl, N.same sA, ok, ho, fun HB w cs sB nw CB eB => ?_⟩
    have nws : w ≠ s := (ne_of_none hsA nw).symm
    refine ⟨_, rfl, s, O, dx, _, rfl, sB _ _ hsA, T.cl, T.nW, (by show 1 < 1000; decide), ?_⟩
    have sC := up (u := .ins O dx (putF "ways" (.ref w) (putF "net" (.ref x) []))) (sA.trans sB)
    have hsC : (upd HB s (.ins O dx (putF "ways" (.ref w) (putF "net" (.ref x) [])))) s = some (.ins O dx (putF "ways" (.ref w) (putF "net" (.ref x) []))) := upd_same
    have CC := CB.ins (u := .ins O dx (putF "ways" (.ref w) (putF "net" (.ref x) []))) (sB _ _ hsA)
    generalize (upd HB s (.ins O dx (putF "ways" (.ref w) (putF "net" (.ref x) [])))) = HC at sC hsC CC
    refine ⟨_, rfl, s, O, dx, _, _, rfl, hsC, T.cl, T.nW, wt_put_w, w, _, rfl, .inl CC.tab, fun r bs nr hbs => ?_⟩
    have hrs := keys_stops hbs
    rw [eB] at hrs
    have sr := same_upd (o := HO.lst (bs.map V.ref)) nr
    have nrs : r ≠ s := (ne_of_none hsC nr).symm
    have l2 : (putF "ways" (V.ref w) (putF "net" (V.ref x) [])).length ≤ 2 := length_putF "ways" (V.ref w) (putF "net" (V.ref x) [])
    refine ⟨_, rfl, s, O, dx, _, rfl, sr _ _ hsC, T.cl, T.nR, by omega, ?_⟩
    have sD := up (u := .ins O dx (putF "remaining" (.ref r) (putF "ways" (.ref w) (putF "net" (.ref x) [])))) (sC.trans sr)
    have hsD : (upd (upd HC r (.lst (bs.map V.ref))) s (.ins O dx (putF "remaining" (.ref r) (putF "ways" (.ref w) (putF "net" (.ref x) []))))) s = some (.ins O dx (putF "remaining" (.ref r) (putF "ways" (.ref w) (putF "net" (.ref x) [])))) := upd_same
    have CD := (CC.same sr).ins (u := .ins O dx (putF "remaining" (.ref r) (putF "ways" (.ref w) (putF "net" (.ref x) [])))) (sr _ _ hsC)
    have hrD : (upd (upd HC r (.lst (bs.map V.ref))) s (.ins O dx (putF "remaining" (.ref r) (putF "ways" (.ref w) (putF "net" (.ref x) []))))) r = some (.lst (bs.map V.ref)) := (upd_ne nrs).trans upd_same
    have hrsD : Paired (StopAt (upd (upd HC r (.lst (bs.map V.ref))) s (.ins O dx (putF "remaining" (.ref r) (putF "ways" (.ref w) (putF "net" (.ref x) [])))))) (bs.map V.ref) (candsL h o.s) := Paired.mapP hrs fun _ _ z => (z.keep (tk_of sr)).keep (.ins (sr _ _ hsC))
    generalize (upd (upd HC r (.lst (bs.map V.ref))) s (.ins O dx (putF "remaining" (.ref r) (putF "ways" (.ref w) (putF "net" (.ref x) []))))) = HD at sD hsD CD hrD hrsD
    refine ⟨(by show 0 ≤ sizeLine; decide), fun a na => ?_⟩
    have sa := same_upd (o := HO.lst []) na
    have nas : a ≠ s := (ne_of_none hsD na).symm
    have l3 : (putF "remaining" (V.ref r) (putF "ways" (V.ref w) (putF "net" (V.ref x) []))).length ≤ 3 := Nat.le_trans (length_putF "remaining" (V.ref r) (putF "ways" (V.ref w) (putF "net" (V.ref x) []))) (by omega)
    refine ⟨_, rfl, s, O, dx, _, rfl, sa _ _ hsD, T.cl, T.nA, by omega, ?_⟩
    rw [wt_put]
    have sE := up (u := .ins O dx (WtFs x w r a)) (sD.trans sa)
    have tk : TupKeep HD (upd (upd HD a (.lst [])) s (.ins O dx (WtFs x w r a))) := (tk_of sa).trans (.ins (sa _ _ hsD))
    refine q _ w cs r a sE (sC.free nr) (sD.free na) ⟨⟨dx, upd_same⟩, N.same sE, ok, ho, (CD.same sa).ins (sa _ _ hsD), eB, ⟨_, (upd_ne nrs).trans (sa _ _ hrD), Paired.mapP hrsD fun _ _ z => z.keep tk⟩, fun c z => z, ⟨[], (upd_ne nas).trans upd_same, .nil⟩⟩
end
abbrev s_Watcher_candidates : Stmt := inClass (top 42) 3
abbrev N_Watcher_candidates : List Str := ["self"]
abbrev P_Watcher_candidates : List Str := ["self"]
theorem sc_Watcher_candidates : FnScope N_Watcher_candidates P_Watcher_candidates (defScope s_Watcher_candidates) := ⟨rfl, rfl, rfl, by decide +kernel, rfl, by decide +kernel, by decide +kernel⟩
section
variable {P : Program} {w : World} {K : PySem.W.Frag} {mg : Str → Option Value} {base : Heap}
theorem ok_w_cands {f O C : Addr} {fd : FuncData} (F : Fun K "candidates" "Watcher.candidates" s_Watcher_candidates f fd) (B : Blt mg) (T : WatT K O) : FnOk P w K mg base CX0 1 f fd P_Watcher_candidates (spWCands O C) := by
  refine F.ok sc_Watcher_candidates (fun vs H Q E h => ?_) (fun cdv A outer s H vs Q E hr h => ?_)
  · obtain ⟨s, S, rfl, _⟩ := h
    rfl
  · obtain ⟨s, S, rfl, A, q⟩ := h
    refine ⟨_, pss_one (ps_ret (pe_callTy call_list_of (by rfl) B.list (by decide +kernel) (pa_cons (pe_fld (pv 0) rfl) pa_nil))), ?_⟩
    obtain ⟨dx, h1⟩ := A.ins
    obtain ⟨rv, h7, h8⟩ := A.rem
    refine ⟨_, rfl, s, O, dx, _, _, rfl, h1, T.cl, T.nR, wf_r, S.r, rv, rfl, .inl (SqL.of h7), fun l nl => ?_⟩
    have sl := same_upd (o := HO.lst rv) nl
    exact q _ l rv sl nl upd_same (Paired.mapP h8 fun _ _ z => z.keep (tk_of sl))
end
abbrev s_Watcher_history : Stmt := inClass (top 42) 4
abbrev N_Watcher_history : List Str := ["self"]
abbrev P_Watcher_history : List Str := ["self"]
theorem sc_Watcher_history : FnScope N_Watcher_history P_Watcher_history (defScope s_Watcher_history) := ⟨rfl, rfl, rfl, by decide +kernel, rfl, by decide +kernel, by decide +kernel⟩
section
variable {P : Program} {w : World} {K : PySem.W.Frag} {mg : Str → Option Value} {base : Heap}
theorem ok_w_hist {f O C : Addr} {fd : FuncData} (F : Fun K "history" "Watcher.history" s_Watcher_history f fd) (B : Blt mg) (T : WatT K O) : FnOk P w K mg base CX0 1 f fd P_Watcher_history (spWHist O C) := by
  refine F.ok sc_Watcher_history (fun vs H Q E h => ?_) (fun cdv A outer s H vs Q E hr h => ?_)
  · obtain ⟨s, S, rfl, _⟩ := h
    rfl
  · obtain ⟨s, S, rfl, A, q⟩ := h
    refine ⟨_, pss_one (ps_ret (pe_callTy call_list_of (by rfl) B.list (by decide +kernel) (pa_cons (pe_fld (pv 0) rfl) pa_nil))), ?_⟩
    obtain ⟨dx, h1⟩ := A.ins
    obtain ⟨av, h7, h8⟩ := A.acc
    refine ⟨_, rfl, s, O, dx, _, _, rfl, h1, T.cl, T.nA, wf_a, S.a, av, rfl, .inl (SqL.of h7), fun l nl => ?_⟩
    have sl := same_upd (o := HO.lst av) nl
    exact q _ l av sl nl upd_same (Paired.mapP h8 fun _ _ z => z.keep (tk_of sl))
end
abbrev s_Watcher_result_with : Stmt := inClass (top 42) 7
abbrev N_Watcher_result_with : List Str := ["self", "candidate", "house", "day"]
abbrev P_Watcher_result_with : List Str := ["self", "candidate", "house", "day"]
theorem sc_Watcher_result_with : FnScope N_Watcher_result_with P_Watcher_result_with (defScope s_Watcher_result_with) := ⟨rfl, rfl, rfl, by decide +kernel, rfl, by decide +kernel, by decide +kernel⟩
/-! ### the result of a letter with one candidate -/
def candO (S : WatS) (c : Nat × Nat) : List Od := setO S.os S.k S.o c
theorem valC_some {cs : List ((Nat × Nat) × Addr)} {c : Nat × Nat} (h : c ∈ cs.map (·.1)) : ∃ d, (c, d) ∈ cs ∧ valV (cs.map fun c => (keyC c.1, V.ref c.2)) (keyC c) = some (.ref d) := by
  induction cs with
  | nil => cases h
  | cons x r ih =>
    by_cases e : x.1 = c
    · refine ⟨x.2, by rw [← e]; exact List.mem_cons_self .., ?_⟩
      unfold valV
      rw [List.map_cons, List.find?_cons_of_pos]
      · rfl
      · exact decide_eq_true (by rw [e])
    · rw [List.map_cons] at h
      rcases List.mem_cons.mp h with z | z
      · exact absurd z.symm e
      · obtain ⟨d, hd, hv⟩ := ih z
        refine ⟨d, List.mem_cons_of_mem _ hd, ?_⟩
        unfold valV at hv ⊢
        rw [List.map_cons, List.find?_cons_of_neg]
        · exact hv
        · intro y
          exact e (keyC_inj (of_decide_eq_true y))
theorem rowC_spec {s t n : Nat} {c : Nat × Nat} (h : c ∈ rowC s t n) : c.1 = t ∧ t ≠ s ∧ 1 ≤ c.2 ∧ c.2 ≤ n := by
  unfold rowC at h
  split at h
  · cases h
  · rename_i e
    obtain ⟨d, hd, rfl⟩ := List.mem_map.mp h
    have := List.mem_range.mp hd
    exact ⟨rfl, e, by show 1 ≤ d + 1; omega, by show d + 1 ≤ n; omega⟩
theorem cand_ok {p h k : Nat} {os : List Od} {o : Od} {c : Nat × Nat} (ok : NetOk p h os) (ho : os[k]? = some o) (hc : c ∈ candsL h o.s) : NetOk p h (setO os k o c) := by
  obtain ⟨t, ht, hr⟩ := List.mem_flatMap.mp hc
  obtain ⟨e, n, a, b⟩ := rowC_spec hr
  have := List.mem_range.mp ht
  exact set_ok ok ho (by omega) (by omega) a b
def spWRes (O C : Addr) : Sp := fun vs H Q _ => ∃ (s : Addr) (S : WatS) (v : V) (c : Nat × Nat) (hs dy : Nat), vs = [.ref s, v, .int hs, .int dy] ∧ WatAt O C H s S ∧ StopAt H v c ∧ c ∈ candsL S.h S.o.s ∧ hs < S.h ∧
  ∀ H' y, Same H H' → OptStop H' y (dst S.p S.h (candO S c) (hs, dy)) → Q y H'
section
variable {P : Program} {w : World} {K : PySem.W.Frag} {mg : Str → Option Value} {base : Heap}
theorem ok_w_res {f O C : Addr} {fd : FuncData} (F : Fun K "result_with" "Watcher.result_with" s_Watcher_result_with f fd) (T : WatT K O) (TN : NetT K C) (DR : Df P w K mg base "result_on" 2 P_result_on spResOn) : FnOk P w K mg base CX0 3 f fd P_Watcher_result_with (spWRes O C) := by
  obtain ⟨fR, fdR, gR, kR, bR, GR⟩ := DR
  refine F.ok sc_Watcher_result_with (fun vs H Q E h => ?_) (fun cdv A outer s0 H vs Q E hr h => ?_)
  · obtain ⟨s, S, v, c, hs, dy, rfl, _⟩ := h
    rfl
  · obtain ⟨s, S, v, c, hs, dy, rfl, W0, hv, hc, hh, q⟩ := h
    have hu : (A.deeper (PyProof.Rows.envOfC "Watcher.result_with" (defScope s_Watcher_result_with) s0.heap.objs.size f cdv)).units + 1 < cLine := hu_of hr
    refine ⟨_, pss_one (ps_ret (pe_call GR hr (by rfl) gR kR bR .nil pass0 (pa_cons (pv 3) (pa_cons (pe_dget hu (pe_dget hu (pe_fld (pv 0) rfl) (pv 1) (fun _ _ => rfl)) (pe_tup (pa_cons (pv 2) (pa_cons (pe_op op_modN (pv 3) (pe_fld (pe_fld (pv 0) rfl) rfl)) pa_nil))) (fun _ _ => rfl)) pa_nil)))), ?_⟩
    obtain ⟨dx, h1⟩ := W0.ins
    obtain ⟨u, rfl, hu1⟩ := hv
    have N := W0.net
    obtain ⟨dxn, fl, as, _, hx, _⟩ := id N
    obtain ⟨d, hd, hdv⟩ := valC_some (c := c) (cs := S.cs) (by rw [W0.all]; exact hc)
    obtain ⟨ks, g, hw, hk⟩ := W0.ways.ways _ hd
    have p1 := W0.ok.p1
    have ok2 := cand_ok W0.ok W0.ord hc
    have hin : plc S.p (hs, dy) ∈ ks := (hk _).mpr (mem_lets.mpr ⟨hh, Nat.mod_lt _ p1⟩)
    have hplc : ∀ z ∈ ks, plc S.p z = z := fun z hz => plc_lt (hw.ok z hz).2
    refine ⟨_, rfl, _, rfl, s, O, dx, _, _, rfl, h1, T.cl, T.nW, wf_w, _, rfl, S.w, .ref d, rfl, hdv ▸ DGet.t (k := keyC c) W0.ways.tab hu1, ?_⟩
    refine ⟨_, rfl, _, rfl, _, rfl, s, O, dx, _, _, rfl, h1, T.cl, T.nN, wf_n, S.x, C, dxn, _, _, rfl, hx, TN.cl, TN.nP, nf_pe, _, _, rfl, rfl, (by omega), (by show 2 ≤ sizeLine; decide), fun u2 nu2 => ?_⟩
    have su := same_upd (o := HO.tup [.int hs, .int ((dy : Int).fmod (S.p : Int))]) nu2
    have hu2 : (upd H u2 (.tup [.int hs, .int ((dy : Int).fmod (S.p : Int))])) u2 = some (.tup ((keyOf S.p (hs, dy)).map kV)) := by
      rw [upd_same, fmod_nat]
      rfl
    have hval : valV (wkv S.p ks g) (keyOf S.p (hs, dy)) = some (g (plc S.p (hs, dy))) := by rw [wkv_val hplc, if_pos hin]
    refine ⟨d, g (plc S.p (hs, dy)), rfl, hval ▸ DGet.t (su _ _ hw.tab) hu2, dy, _, _, rfl, (hw.ways _ hin).keep (tk_of su), fun H' y s2 hy => ?_⟩
    refine q H' y (su.trans s2) ?_
    unfold candO
    rw [dst_way ok2 hh]
    exact hy
end
abbrev s_check_result : Stmt := top 44
abbrev N_check_result : List Str := ["net", "result", "house", "day"]
abbrev P_check_result : List Str := ["net", "result"]
theorem sc_check_result : FnScope N_check_result P_check_result (defScope s_check_result) := ⟨rfl, rfl, rfl, by decide +kernel, rfl, by decide +kernel, by decide +kernel⟩
/-! ### a valid result passes -/
def spChkRes (C : Addr) : Sp := fun vs H Q _ => ∃ (x t : Addr) (p h : Nat) (os : List Od) (F : List Addr) (y : V) (r : Option (Nat × Nat)), vs = [.ref x, y] ∧ NetAt C H x p h os t F ∧ 1 ≤ h ∧ OptStop H y r ∧ (∀ c, r = some c → c.1 < h) ∧ Q .non H
section
variable {P : Program} {w : World} {K : PySem.W.Frag} {mg : Str → Option Value} {base : Heap}
theorem ok_chk_res {f C : Addr} {fd : FuncData} (F : Fun K "check_result" "check_result" s_check_result f fd) (B : Blt mg) (T : NetT K C) (DW : Df P w K mg base "is_within" 2 P_is_within (spWithin K)) (DI : Df P w K mg base "is_integer" 1 P_is_integer (spIsInt K)) : FnOk P w K mg base CX0 3 f fd P_check_result (spChkRes C) := by
  obtain ⟨fW, fdW, gW, kW, bW, GW⟩ := DW
  obtain ⟨fI, fdI, gI, kI, bI, GI⟩ := DI
  refine F.ok sc_check_result (fun vs H Q E h => ?_) (fun cdv A outer s H vs Q E hr h => ?_)
  · obtain ⟨x, t, p, h, os, F, y, r, rfl, _⟩ := h
    rfl
  · obtain ⟨x, t, p, h, os, F, y, r, rfl, N, h1, hy, hh, q⟩ := h
    have hr1 : Room 1 _ := hr.mono (by decide)
    refine ⟨_, pss_cons (ps_if (pt_cmpR op_isN (pv 1) pe_non (nomark _)) (pss_one ps_retN) pss_nil)
      (pss_cons (ps_if (PW.pt (pw_or (pt_not (pt_val (pe_callB call_isi (by rfl) B.isi PyProof.Rows.boot_isinstance (pa_cons (pv 1) (pa_cons (pe_bltn (v := .ty "tuple") (by rfl) B.tuple (by decide +kernel) rfl) pa_nil)))))
        (pw_or1 (pt_cmpR op_ne (pe_callB call_len_seq (by rfl) B.len PySem.boot_len (pa_cons (pv 1) pa_nil)) pe_int (nomark _))))) (pss_one ps_never) pss_nil)
      (pss_cons (ps_asg (pv 1) (pg_tup (by rfl) (pgs_cons (pg_name (i := 2) sc_check_result.nd rfl (.inl rfl)) (pgs_cons (pg_name (i := 3) sc_check_result.nd rfl (.inl rfl)) pgs_nil))))
      (pss_one (ps_if (PW.pt (pw_or (pt_not (pt_val (pe_call GW hr (by rfl) gW kW bW .nil pass0 (pa_cons (pv 2) (pa_cons pe_int (pa_cons (pe_op op_sub (pe_fld (pv 0) rfl) pe_int) pa_nil))))))
        (pw_or1 (pt_not (pt_val (pe_call GI hr1 (by rfl) gI kI bI .nil pass0 (pa_cons (pv 3) pa_nil))))))) (pss_one ps_never) pss_nil)))), ?_⟩
    obtain ⟨dx, fl, as, _, hx, _⟩ := id N
    cases r with
    | none =>
      obtain rfl : y = .non := hy
      exact ⟨_, rfl, rfl, _, rfl, iteT q⟩
    | some c =>
      obtain ⟨u, rfl, hu⟩ := hy
      have hc := hh c rfl
      refine ⟨_, rfl, rfl, _, rfl, iteF ⟨_, rfl, _, _, _, _, true, rfl, .ty "tuple", .base (.tup hu), kit_ty (by decide +kernel), _, rfl, iteF ⟨_, rfl, u, _, rfl, .inr (SqT.of hu), rfl, _, rfl, iteF ?_⟩⟩⟩
      refine ⟨_, rfl, u, _, rfl, SqT.of hu, rfl, _, _, rfl, _, _, rfl, rfl, ?_⟩
      have e1 : ((h : Int) - 1) = ((h - 1 : Nat) : Int) := by omega
      refine ⟨_, rfl, _, rfl, x, C, dx, _, _, rfl, hx, T.cl, T.nH, nf_ho, _, _, rfl, rfl, _, 0, ((h - 1 : Nat) : Int), congrArg (fun z : Int => [V.int (c.1 : Nat), V.int 0, V.int z]) e1, .int, _, rfl, ?_⟩
      rw [show withinB (.int (c.1 : Nat)) 0 ((h - 1 : Nat) : Int) = true from within_nat (lo := 0) (by omega) (by omega)]
      exact iteF ⟨_, rfl, _, rfl, .int, _, rfl, iteF q⟩
end
/-! ### with how many candidates a letter has each of its results -/
def resW (S : WatS) (hs dy : Nat) (c : Nat × Nat) : NK := dst S.p S.h (candO S c) (hs, dy)
def resL (S : WatS) (hs dy : Nat) : List NK := S.rem.map (resW S hs dy)
/-- the rows count the results -/
structure CntOk (rows : List NRow) (res : List NK) : Prop where
  keys : ∀ k, k ∈ rows.map (·.1) ↔ k ∈ res
  cnt : ∀ r ∈ rows, r.2.2 = .int (res.count r.1 : Nat)
theorem cnt_nil : CntOk [] [] := ⟨fun k => by simp, fun r h => nomatch h⟩
theorem valN_cnt {rows : List NRow} {res : List NK} (c : CntOk rows res) (k : NK) : (valN rows k).getD (.int 0) = .int (res.count k : Nat) := by
  unfold valN
  cases hf : rows.find? fun r => decide (r.1 = k) with
  | none =>
    rw [List.find?_eq_none] at hf
    have hn : k ∉ res := fun z => by
      obtain ⟨r, hr, e⟩ := List.mem_map.mp ((c.keys k).mpr z)
      exact hf r hr (decide_eq_true e)
    rw [List.count_eq_zero_of_not_mem hn]
    rfl
  | some r =>
    have hm := List.mem_of_find?_eq_some hf
    have hk : r.1 = k := by
      have := List.find?_some hf
      simpa using this
    show r.2.2 = _
    rw [c.cnt r hm, hk]
theorem cnt_put {rows : List NRow} {res : List NK} (c : CntOk rows res) (k : NK) (u : V) : CntOk (putN rows k u (.int ((res.count k : Nat) + 1))) (res ++ [k]) := by
  have e1 : ∀ l, (res ++ [k]).count l = res.count l + if l = k then 1 else 0 := fun l => by
    rw [List.count_append, List.count_singleton]
    by_cases q : k = l
    · rw [if_pos (beq_iff_eq.mpr q), if_pos q.symm]
    · rw [if_neg (fun z => q (beq_iff_eq.mp z)), if_neg (Ne.symm q)]
  unfold putN
  by_cases hk : k ∈ rows.map (·.1)
  · rw [if_pos hk]
    refine ⟨fun l => ?_, fun r hr => ?_⟩
    · rw [List.map_map, List.mem_append, List.mem_singleton]
      have e : ((fun r : NRow => r.1) ∘ fun r => if r.1 = k then (r.1, r.2.1, V.int ((res.count k : Nat) + 1)) else r) = fun r => r.1 := by
        funext r
        show (if r.1 = k then (r.1, r.2.1, V.int ((res.count k : Nat) + 1)) else r).1 = r.1
        split <;> rfl
      rw [e, c.keys]
      exact ⟨.inl, fun z => z.elim id fun y => by rw [y]; exact (c.keys k).mp hk⟩
    · obtain ⟨r0, h0, rfl⟩ := List.mem_map.mp hr
      by_cases q : r0.1 = k
      · rw [if_pos q]
        show V.int _ = V.int _
        rw [e1, if_pos q, q]
        rfl
      · rw [if_neg q, e1, if_neg q]
        exact c.cnt r0 h0
  · rw [if_neg hk]
    have hn : k ∉ res := fun z => hk ((c.keys k).mpr z)
    refine ⟨fun l => ?_, fun r hr => ?_⟩
    · rw [List.map_append, List.mem_append, List.mem_append, c.keys]
      rfl
    · rcases List.mem_append.mp hr with z | z
      · have q : ¬ r.1 = k := fun e => hk (by rw [← e]; exact List.mem_map.mpr ⟨r, z, rfl⟩)
        rw [e1, if_neg q]
        exact c.cnt r z
      · rw [List.mem_singleton.mp z]
        show V.int _ = V.int _
        rw [e1, if_pos rfl]
        rfl
theorem wf_no {x w r a : Addr} {m : Str} (h1 : ¬ m = "net") (h2 : ¬ m = "ways") (h3 : ¬ m = "remaining") (h4 : ¬ m = "accepted") : (WtFs x w r a).lookup m = none := by
  unfold WtFs
  simp only [List.lookup_cons, List.lookup_nil, beq_eq_false_iff_ne.mpr h1, beq_eq_false_iff_ne.mpr h2, beq_eq_false_iff_ne.mpr h3, beq_eq_false_iff_ne.mpr h4]
theorem opt_key {H : Hp} {v : V} {k : NK} (h : OptStop H v k) : KeyV H k v := by
  cases k with
  | none => exact h
  | some q => exact h
def spWCnt (P : Program) (w : World) (O C : Addr) : Sp := fun vs H Q _ => ∃ (s : Addr) (S : WatS) (hs dy : Nat), vs = [.ref s, .int hs, .int dy] ∧ WatAt O C H s S ∧ S.rem.length ≤ 100 ∧ hs < S.h ∧
  ∀ H' d rows, Same H H' → H d = none → DN P w H' d rows → CntOk rows (resL S hs dy) → rows.length ≤ 100 → Q (.ref d) H'
abbrev s_Watcher_count_results : Stmt := inClass (top 42) 8
abbrev N_Watcher_count_results : List Str := ["self", "house", "day", "counts", "candidate", "result"]
abbrev P_Watcher_count_results : List Str := ["self", "house", "day"]
theorem sc_Watcher_count_results : FnScope N_Watcher_count_results P_Watcher_count_results (defScope s_Watcher_count_results) := ⟨rfl, rfl, rfl, by decide +kernel, rfl, by decide +kernel, by decide +kernel⟩
section
variable {P : Program} {w : World} {K : PySem.W.Frag} {mg : Str → Option Value} {base : Heap}
theorem ok_w_cnt {f fR O C : Addr} {fd fdR : FuncData} (F : Fun K "count_results" "Watcher.count_results" s_Watcher_count_results f fd) (T : WatT K O) (mR : Meth K O "result_with" fR) (GR : FnOk P w K mg base CX0 3 fR fdR P_Watcher_result_with (spWRes O C)) (bR : Binds K fdR P_Watcher_result_with []) :
    FnOk P w K mg base CX0 4 f fd P_Watcher_count_results (spWCnt P w O C) := by
  refine F.ok sc_Watcher_count_results (fun vs H Q E h => ?_) (fun cdv A outer s0 H vs Q E hr h => ?_)
  · obtain ⟨s, S, hs, dy, rfl, _⟩ := h
    rfl
  · obtain ⟨s, S, hs, dy, rfl, W0, rl, hh, q⟩ := h
    have hu : (A.deeper (PyProof.Rows.envOfC "Watcher.count_results" (defScope s_Watcher_count_results) s0.heap.objs.size f cdv)).units + 2 < cLine := by
      have := hr.un
      omega
    refine ⟨_, pss_cons (ps_set (i := 3) sc_Watcher_count_results.nd rfl (.inl rfl) pe_dnewN)
      (pss_cons (ps_for PassesOwn.never rfl (pi_list (pe_fld (pv 0) rfl)) (pg_name (i := 4) sc_Watcher_count_results.nd rfl (.inl rfl))
        (pss_cons (ps_set (i := 5) sc_Watcher_count_results.nd rfl (.inl rfl) (pe_meth (pv 0) T.cl mR GR hr bR .nil pass0 (pa_cons (pv 4) (pa_cons (pv 1) (pa_cons (pv 2) pa_nil)))))
        (pss_one (ps_asg (pe_op op_add (pe_bmN PySem.F.plainAttrs_dict PySem.F.slot_dict_get PySem.F.type_dict_get (mt_getN hu) (pv 3) (pa_cons (pv 5) (pa_cons pe_int pa_nil))) pe_int) (pg_sub (pv 3) (pv 5) (set_dictN hu))))))
      (pss_one (ps_ret (pv 3)))), ?_⟩
    refine fun d nd sy => ?_
    obtain ⟨dx, h1⟩ := W0.ins
    obtain ⟨rv, h7, h8⟩ := W0.rem
    have sN := same_upd (o := dnO P w d []) nd
    refine ⟨_, rfl, s, O, dx, _, _, rfl, sN _ _ h1, T.cl, T.nR, wf_r, S.r, rfl, ⟨_, SqL.of (sN _ _ h7)⟩, ?_⟩
    refine for_list (K := K) (a := S.r) (xs := rv) (fun i σ H' => ∃ (y4 y5 : Option V) (rows : List NRow), σ = [some (.ref s), some (.int hs), some (.int dy), some (.ref d), y4, y5] ∧ Same H H' ∧ DN P w H' d rows ∧ CntOk rows ((S.rem.take i).map (resW S hs dy)) ∧ rows.length ≤ i)
      ⟨_, _, [], rfl, sN, dn_new sy, cnt_nil, Nat.le_refl _⟩ (fun i σ H' _ ⟨_, _, _, _, e, _⟩ => SqL.of (e _ _ h7)) ?_ ?_
    · rintro i v σ H2 hi ⟨y4, y5, rows, rfl, s2, D2, C2, l2⟩
      have lt : i < S.rem.length := by rw [← h8.length]; exact (List.getElem?_eq_some_iff.mp hi).1
      have ei := List.getElem?_eq_getElem lt
      obtain ⟨v', hv', hc⟩ := Paired.get? (i := i) h8 ei
      obtain rfl : v' = v := Option.some.inj (hv'.symm.trans hi)
      have hm := W0.sub _ (List.getElem_mem lt)
      rw [List.take_add_one, ei, List.map_append]
      generalize S.rem[i] = c at hc hm
      refine ⟨_, rfl, s, dx, _, rfl, s2 _ _ h1, wf_no (by decide +kernel) (by decide +kernel) (by decide +kernel) (by decide +kernel), _, rfl, _, rfl, _, rfl, s, S, v', c, hs, dy, rfl, W0.same s2, hc.keep (tk_of s2), hm, hh, fun H3 y s3 hy => ?_⟩
      have D3 := dn_same D2 s3
      have hk : KeyV H3 (resW S hs dy c) y := opt_key hy
      refine ⟨_, rfl, ⟨d, rows, rfl, D3⟩, _, rfl, d, rows, resW S hs dy c, y, .int 0, rfl, rfl, D3, hk, ?_⟩
      rw [valN_cnt C2]
      refine ⟨_, _, rfl, rfl, _, rfl, _, rfl, d, rows, resW S hs dy c, rfl, D3, hk, Nat.lt_of_le_of_lt l2 (small1000 (by omega)), ?_⟩
      refine ⟨_, _, _, rfl, fun b o e => ?_, dn_put D3 hk, cnt_put C2 _ _, Nat.le_trans putN_len (by omega)⟩
      rw [upd_ne (ne_of_none e nd)]
      exact s3 _ _ (s2 _ _ e)
    rintro σ H2 ⟨y4, y5, rows, rfl, s2, D2, C2, l2⟩
    rw [h8.length, List.take_of_length_le (Nat.le_refl _)] at C2
    exact ⟨_, rfl, q H2 d rows s2 nd D2 C2 (by rw [h8.length] at l2; omega)⟩
end
/-! ### all results that a letter can have -/
section
open PySem.W (alike alikeAll dataLt AllAlike Sortable dataLe)
theorem wr_uniq {l l' : List (Nat × Nat)} (h : l.Pairwise fun a b => ltS a b = true) (h' : l'.Pairwise fun a b => ltS a b = true) (e : ∀ s, s ∈ l ↔ s ∈ l') : l = l' := by
  have irr : ∀ s : Nat × Nat, ltS s s = false := fun s => ltS_no.mpr (by omega)
  have nd : ∀ {l : List (Nat × Nat)}, l.Pairwise (fun a b => ltS a b = true) → l.Nodup := fun h => List.Pairwise.imp (fun {a b} q e => by
    rw [e, irr] at q
    cases q) h
  have hp : l.Perm l' := (List.perm_ext_iff_of_nodup (nd h) (nd h')).mpr e
  refine List.Perm.eq_of_pairwise (le := fun a b => ltS a b = true) (fun a b _ _ h1 h2 => ?_) h h' hp
  have i1 := ltS_iff.mp h1
  have i2 := ltS_iff.mp h2
  omega
theorem wr_alike (l : List (Nat × Nat)) : AllAlike (l.map plD) := PySem.W.AllAlike.of fun a b => plD_alike a b
theorem wr_sortable (l : List (Nat × Nat)) : Sortable (l.map plD) := .inl fun d hd => by
  obtain ⟨s, _, rfl⟩ := List.mem_map.mp hd
  exact ⟨_, _, rfl⟩
theorem wrLe (a b : Nat × Nat) : dataLe false plD a b = !ltS b a := by
  rw [PySem.W.dataLe_eq, ← dataLt_pl]
  rfl
theorem wr_sort {l : List (Nat × Nat)} (nd : l.Nodup) : (l.mergeSort (dataLe false plD)).Pairwise (fun a b => ltS a b = true) ∧ ∀ s, s ∈ l.mergeSort (dataLe false plD) ↔ s ∈ l := by
  have hp : (l.mergeSort (dataLe false plD)).Perm l := List.mergeSort_perm _ _
  refine ⟨?_, fun s => hp.mem_iff⟩
  have h1 : (l.mergeSort (dataLe false plD)).Pairwise fun a b => dataLe false plD a b = true := PySem.W.sort_pairwise (PySem.W.sortLe_total _ _ _) _
  have h2 : (l.mergeSort (dataLe false plD)).Nodup := hp.nodup_iff.mpr nd
  refine (List.Pairwise.and h1 h2).imp ?_
  rintro a b ⟨q, ne⟩
  rw [wrLe] at q
  have i1 := ltS_no.mp (show ltS b a = false by simpa using q)
  refine ltS_iff.mpr ?_
  have : ¬ (a.1 = b.1 ∧ a.2 = b.2) := fun z => ne (Prod.ext z.1 z.2)
  omega
end
structure ResOk (l res : List NK) : Prop where
  ex : ∃ ds : List (Nat × Nat), l = (if none ∈ res then [none] else []) ++ ds.map some ∧ ds.Pairwise (fun a b => ltS a b = true) ∧ ∀ s, s ∈ ds ↔ some s ∈ res
theorem ResOk.mem {l res : List NK} (r : ResOk l res) (k : NK) : k ∈ l ↔ k ∈ res := by
  obtain ⟨ds, rfl, _, h⟩ := r.ex
  rw [List.mem_append]
  cases k with
  | none =>
    by_cases c : none ∈ res
    · rw [if_pos c]
      exact ⟨fun _ => c, fun _ => .inl (List.mem_singleton.mpr rfl)⟩
    · rw [if_neg c]
      refine ⟨fun z => ?_, fun z => absurd z c⟩
      rcases z with z | z
      · cases z
      · obtain ⟨_, _, e⟩ := List.mem_map.mp z
        cases e
  | some s =>
    rw [← h s]
    constructor
    · rintro (z | z)
      · split at z
        · cases List.mem_singleton.mp z
        · cases z
      · obtain ⟨_, hq, e⟩ := List.mem_map.mp z
        rw [← Option.some.inj e]
        exact hq
    · exact fun z => .inr (List.mem_map.mpr ⟨s, z, rfl⟩)
theorem ResOk.uniq {l l' res : List NK} (a : ResOk l res) (b : ResOk l' res) : l = l' := by
  obtain ⟨d, rfl, p, h⟩ := a.ex
  obtain ⟨d', rfl, p', h'⟩ := b.ex
  rw [wr_uniq p p' fun s => (h s).trans (h' s).symm]
def somes (rows : List NRow) : List (Nat × Nat) := rows.filterMap (·.1)
theorem mem_somes {rows : List NRow} {s : Nat × Nat} : s ∈ somes rows ↔ some s ∈ rows.map (·.1) := by
  unfold somes
  rw [List.mem_filterMap, List.mem_map]
theorem somes_nd {rows : List NRow} (nd : (rows.map (·.1)).Nodup) : (somes rows).Nodup := by
  unfold somes
  rw [List.nodup_iff_pairwise_ne, List.pairwise_filterMap]
  have := List.pairwise_map.mp (List.nodup_iff_pairwise_ne.mp nd)
  refine this.imp fun {a b} q x hx y hy e => q ?_
  rw [hx, hy, e]
/-- a comprehension over such a dict -/
theorem lc_keysN {P : Program} {w : World} {d D : Addr} {o : Obj} {rows : List NRow} {g : TG} {tt : TT} {te : TE} {ws : List Nat} {ρ : L2.St} {H1 : Hp} {Qe : Hp → Prop} (J : Nat → Hp → Prop) (j0 : J 0 (upd H1 D (.lst []))) (hl : ∀ i H, J i H → H d = some (.frz o (dnO P w d rows)))
    (step : ∀ i r H, rows[i]? = some r → J i H → g r.2.1 (wipe ρ ws) H fun σ2 H2 => wipe σ2 ws = wipe ρ ws ∧ tt σ2 H2 fun b H3 => if b = true then te σ2 H3 fun y H4 => ∃ acc, H4 D = some (.lst acc) ∧ acc.length < sizeLine ∧ J (i + 1) (upd H4 D (.lst (acc ++ [y]))) else J (i + 1) H3)
    (fin : ∀ H, J rows.length H → Qe H) :
    ∃ W : Nat → Nat → Hp → Prop, (∃ m, W 0 m (upd H1 D (.lst []))) ∧ ∀ i m H, W i m H →
  ((ItN P w d o rows).stop i H ∧ Qe H) ∨ ((ItN P w d o rows).go i H ∧ ∃ Nx : Hp → Prop, (∀ H', Nx H' → ∃ m', m' < m ∧ W (i + 1) m' H') ∧ ∀ x H', (ItN P w d o rows).yld i H x H' → g x (wipe ρ ws) H' fun σ2 H2 => wipe σ2 ws = wipe ρ ws ∧ tt σ2 H2 fun b H3 =>
    if b = true then te σ2 H3 fun y H4 => ∃ acc, H4 D = some (.lst acc) ∧ acc.length < sizeLine ∧ Nx (upd H4 D (.lst (acc ++ [y]))) else Nx H3) := by
  refine ⟨fun i m H => J i H ∧ i ≤ rows.length ∧ m = rows.length - i, ⟨_, j0, Nat.zero_le _, rfl⟩, ?_⟩
  rintro i m H ⟨j, le, rfl⟩
  by_cases c : i < rows.length
  · refine .inr ⟨⟨hl i H j, c⟩, J (i + 1), fun H' j' => ⟨_, (by omega), j', c, rfl⟩, ?_⟩
    rintro x H' ⟨rfl, r, hr, rfl⟩
    exact step i r H' hr j
  · have e : i = rows.length := by omega
    refine .inl ⟨⟨hl i H j, by show rows.length ≤ i; omega⟩, fin H ?_⟩
    rw [← e]
    exact j
theorem take_somes {rows : List NRow} {i : Nat} {r : NRow} (h : rows[i]? = some r) : somes (rows.take (i + 1)) = somes (rows.take i) ++ r.1.toList := by
  unfold somes
  rw [List.take_add_one, h, List.filterMap_append]
  congr 1
theorem valN_some {rows : List NRow} {k : NK} : (valN rows k).isSome = decide (k ∈ rows.map (·.1)) := by
  unfold valN
  rw [Option.isSome_map, Bool.eq_iff_iff, List.find?_isSome, decide_eq_true_iff, List.mem_map]
  simp
theorem Paired.mapO {H : Hp} : ∀ {vs : List V} {l : List (Nat × Nat)}, Paired (StopAt H) vs l → Paired (OptStop H) vs (l.map some)
  | _, _, .nil => .nil
  | _, _, .cons h t => .cons h (Paired.mapO t)
def spWRess (O C : Addr) : Sp := fun vs H Q _ => ∃ (s : Addr) (S : WatS) (hs dy : Nat), vs = [.ref s, .int hs, .int dy] ∧ WatAt O C H s S ∧ S.rem.length ≤ 100 ∧ hs < S.h ∧ dy ≤ 1000000000000000000 ∧
  ∀ H' r ws l, Same H H' → H r = none → H' r = some (.lst ws) → Paired (OptStop H') ws l → ResOk l (resL S hs dy) → l.length ≤ 101 → Q (.ref r) H'
abbrev s_Watcher_results : Stmt := inClass (top 42) 5
abbrev N_Watcher_results : List Str := ["self", "house", "day", "found", "delivered", "result"]
abbrev P_Watcher_results : List Str := ["self", "house", "day"]
theorem sc_Watcher_results : FnScope N_Watcher_results P_Watcher_results (defScope s_Watcher_results) := ⟨rfl, rfl, rfl, by decide +kernel, rfl, by decide +kernel, by decide +kernel⟩
section
variable {P : Program} {w : World} {K : PySem.W.Frag} {mg : Str → Option Value} {base : Heap}
theorem ok_w_ress {f fC O C : Addr} {fd fdC : FuncData} (F : Fun K "results" "Watcher.results" s_Watcher_results f fd) (T : WatT K O) (zo : mg "sorted" = none) (DL : Df P w K mg base "check_letter" 4 P_check_letter (spLetter C))
    (mC : Meth K O "count_results" fC) (GC : FnOk P w K mg base CX0 4 fC fdC P_Watcher_count_results (spWCnt P w O C)) (bC : Binds K fdC P_Watcher_count_results []) : FnOk P w K mg base CX0 5 f fd P_Watcher_results (spWRess O C) := by
  obtain ⟨fL, fdL, gL, kL, bL, GL⟩ := DL
  refine F.ok sc_Watcher_results (fun vs H Q E h => ?_) (fun cdv A outer s0 H vs Q E hr h => ?_)
  · obtain ⟨s, S, hs, dy, rfl, _⟩ := h
    rfl
  · obtain ⟨s, S, hs, dy, rfl, W0, rl, hh, hd, q⟩ := h
    have hu : (A.deeper (PyProof.Rows.envOfC "Watcher.results" (defScope s_Watcher_results) s0.heap.objs.size f cdv)).units + 65 < cLine := by
      have := hr.un
      omega
    have hu2 : (A.deeper (PyProof.Rows.envOfC "Watcher.results" (defScope s_Watcher_results) s0.heap.objs.size f cdv)).units + 2 < cLine := by omega
    refine ⟨_, pss_cons (ps_expr (pe_call GL hr (by rfl) gL kL bL .nil pass0 (pa_cons (pe_fld (pv 0) rfl) (pa_cons (pv 1) (pa_cons (pv 2) pa_nil)))))
      (pss_cons (ps_set (i := 3) sc_Watcher_results.nd rfl (.inl rfl) (pe_meth (pv 0) T.cl mC GC hr bC .nil pass0 (pa_cons (pv 1) (pa_cons (pv 2) pa_nil))))
      (pss_cons (ps_set (i := 4) sc_Watcher_results.nd rfl (.inl rfl) (pe_callB (cr_sortedD plD hu) (by rfl) zo PyProof.Rows.boot_sorted (pa_cons (pe_lock (pe_lc (own := [("result", 5)]) (g := gName 5) (tt := tNotN (tVar 5)) (te := tVar 5) (by rfl) sc_Watcher_results.nd (pi_keysN (pv 3)) (blkOk_by (N := N_Watcher_results) (sc := defScope s_Watcher_results) (by decide +kernel))
          (fun _ _ _ _ _ => pg_name (i := 5) sc_Watcher_results.nd rfl (.inl rfl)) (fun _ _ _ _ _ => pts_one (pt_cmpR op_notN (pv 5) pe_non (nomark _))) (fun _ _ _ _ _ => pv 5))) pa_nil)))
      (pss_cons (ps_if (pt_cmpR (op_inN hu2) pe_non (pv 3) rfl) (pss_one (ps_ret (pe_op op_cat (pe_lst (pa_cons pe_non pa_nil)) (pv 4)))) pss_nil)
      (pss_one (ps_ret (pv 4)))))), ?_⟩
    obtain ⟨dx, h1⟩ := W0.ins
    have sn : ∀ {Ha Hb : Hp} {b : Addr}, Same Ha Hb → Hb b = none → Ha b = none := fun {Ha Hb b} e z => by
      cases q : Ha b with
      | none => rfl
      | some o => rw [e _ _ q] at z; cases z
    refine ⟨_, rfl, s, O, dx, _, _, rfl, h1, T.cl, T.nN, wf_n, _, rfl, _, rfl, S.x, S.t, S.p, S.h, hs, dy, S.os, S.F, rfl, W0.net, hh, hd, ?_⟩
    refine ⟨_, rfl, s, dx, _, rfl, h1, wf_no (by decide +kernel) (by decide +kernel) (by decide +kernel) (by decide +kernel), _, rfl, _, rfl, s, S, hs, dy, rfl, W0, rl, hh, fun H1 d rows s1 nd D1 C1 l1 => ?_⟩
    have sd : (d == sysModules) = false := D1.sys
    refine ⟨d, dnO P w d rows, D1.at_, True.intro, fun od => ⟨_, rfl, d, od, rows, rfl, sd, upd_same, fun L nL => ?_⟩⟩
    have nLd : d ≠ L := ne_of_none upd_same nL
    have nL1 : H1 L = none := (upd_ne (Ne.symm nLd)).symm.trans nL
    have ll : ∀ i, (somes (rows.take i)).length ≤ i := fun i => Nat.le_trans (List.length_filterMap_le _ _) (List.length_take_le _ _)
    refine lc_keysN (P := P) (w := w) (d := d) (o := od) (rows := rows) (fun i H' => ∃ acc, H' = upd (upd H1 d (.frz od (dnO P w d rows))) L (.lst acc) ∧ Paired (StopAt H1) acc (somes (rows.take i)))
      ⟨[], rfl, .nil⟩ (fun i H' ⟨_, e, _⟩ => by rw [e]; exact (upd_ne nLd).trans upd_same) ?_ ?_
    · rintro i r H' hr ⟨acc, rfl, hp⟩
      have hk := D1.keys r (List.mem_of_getElem? hr)
      have lt : i < rows.length := (List.getElem?_eq_some_iff.mp hr).1
      rw [take_somes hr]
      cases e : r.1 with
      | none =>
        rw [e] at hk
        have e2 : r.2.1 = .non := hk
        rw [e2]
        exact ⟨rfl, _, rfl, rfl, _, rfl, ite2 (fun z => by cases z) (fun _ => ⟨acc, rfl, by show Paired _ acc (_ ++ []); rw [List.append_nil]; exact hp⟩)⟩
      | some q =>
        rw [e] at hk
        obtain ⟨u, e2, hu2⟩ := hk
        rw [e2]
        refine ⟨rfl, _, rfl, rfl, _, rfl, ite2 (fun _ => ⟨_, rfl, acc, upd_same, ?_, acc ++ [.ref u], upd_upd, Paired.snoc hp ⟨u, rfl, hu2⟩⟩) (fun z => absurd rfl z)⟩
        rw [hp.length]
        exact Nat.lt_of_le_of_lt (ll i) (small1000 (by omega))
    · rintro H' ⟨acc, rfl, hp⟩
      rw [List.take_of_length_le (Nat.le_refl _)] at hp
      refine ⟨(upd_ne nLd).trans upd_same, ?_⟩
      have eH : upd (upd (upd H1 d (.frz od (dnO P w d rows))) L (.lst acc)) d (dnO P w d rows) = upd H1 L (.lst acc) := by
        funext b
        by_cases b1 : b = d
        · rw [b1, upd_same, upd_ne nLd, D1.at_]
        · rw [upd_ne b1]
          by_cases b2 : b = L
          · rw [b2, upd_same, upd_same]
          · rw [upd_ne b2, upd_ne b1, upd_ne b2]
      rw [eH]
      have sL := same_upd (o := HO.lst acc) nL1
      have hp2 := StopsAt.keep (tk_of sL) hp
      obtain ⟨so1, so2⟩ := wr_sort (somes_nd D1.nd)
      refine ⟨L, acc, somes rows, StopAt H1, rfl, SqL.of upd_same, hp, stops_dp hp2, wr_alike _, wr_sortable _, fun b _ => plD_depth b, fun ys Z hys nZ => ?_⟩
      have sZ := same_upd (o := HO.lst ys) nZ
      have sA : Same H1 (upd (upd H1 L (.lst acc)) Z (.lst ys)) := sL.trans sZ
      have D2 := dn_same D1 sA
      generalize hY : (somes rows).mergeSort (PySem.W.dataLe false plD) = Y at hys so1 so2
      have hZ : (upd (upd H1 L (.lst acc)) Z (.lst ys)) Z = some (.lst ys) := upd_same
      have hysO : Paired (OptStop (upd (upd H1 L (.lst acc)) Z (.lst ys))) ys (Y.map some) := Paired.mapO (StopsAt.keep (tk_of sA) hys)
      have Yl : Y.length ≤ 100 := by
        have h1 := hY ▸ (List.mergeSort_perm (somes rows) (PySem.W.dataLe false plD)).length_eq
        have h2 : (somes rows).length ≤ rows.length := List.length_filterMap_le _ _
        omega
      have mem : ∀ s, s ∈ Y ↔ some s ∈ resL S hs dy := fun s => (so2 s).trans (mem_somes.trans (C1.keys _))
      have iv : (valN rows none).isSome = decide (none ∈ resL S hs dy) := by
        rw [valN_some]
        exact decide_eq_decide.mpr (C1.keys _)
      generalize hHH : upd (upd H1 L (.lst acc)) Z (.lst ys) = HH at *
      refine ⟨_, rfl, d, rows, none, rfl, D2, rfl, _, rfl, ?_⟩
      rw [iv]
      refine ite2 (fun c => ?_) (fun c => ?_)
      · have c1 : none ∈ resL S hs dy := of_decide_eq_true c
        refine ⟨Nat.one_le_two_pow, fun u nu => ?_⟩
        have su := same_upd (o := HO.lst [.non]) nu
        have nuZ : Z ≠ u := ne_of_none hZ nu
        refine ⟨_, rfl, u, Z, [.non], ys, rfl, rfl, upd_same, su _ _ hZ, ?_, fun r nr => ?_⟩
        · rw [hys.length]
          exact Nat.le_of_lt (small1000 (by show 1 + Y.length ≤ 1000; omega))
        · have sr := same_upd (o := HO.lst ([.non] ++ ys)) nr
          have sB := su.trans sr
          have hnn : OptStop (upd (upd HH u (HO.lst [V.non])) r (HO.lst ([.non] ++ ys))) .non none := rfl
          exact q _ r (.non :: ys) (none :: Y.map some) ((s1.trans sA).trans sB) (sn ((s1.trans sA).trans su) nr) upd_same (.cons hnn (Paired.mapP hysO fun _ _ z => OptStop.keep (tk_of sB) z)) ⟨Y, by rw [if_pos c1]; rfl, so1, mem⟩ (by rw [List.length_cons, List.length_map]; omega)
      · have c1 : ¬ none ∈ resL S hs dy := fun z => c (decide_eq_true z)
        exact ⟨_, rfl, q HH Z ys (Y.map some) (s1.trans sA) (sn (s1.trans sL) nZ) hZ hysO ⟨Y, by rw [if_neg c1]; rfl, so1, mem⟩ (by rw [List.length_map]; omega)⟩
end
/-! ### the first letter whose result leaves the fewest candidates -/
section
open PySem.W (alike alikeAll dataLt minD AlikeAll)
def ltB (a b : Nat × Nat × Nat) : Bool := if a.1 = b.1 then (if a.2.1 = b.2.1 then decide (a.2.2 < b.2.2) else decide (a.2.1 < b.2.1)) else decide (a.1 < b.1)
theorem ltB_iff {a b : Nat × Nat × Nat} : ltB a b = true ↔ a.1 < b.1 ∨ (a.1 = b.1 ∧ (a.2.1 < b.2.1 ∨ (a.2.1 = b.2.1 ∧ a.2.2 < b.2.2))) := by
  unfold ltB
  by_cases c : a.1 = b.1
  · rw [if_pos c]
    by_cases c2 : a.2.1 = b.2.1
    · rw [if_pos c2, decide_eq_true_iff]
      omega
    · rw [if_neg c2, decide_eq_true_iff]
      omega
  · rw [if_neg c, decide_eq_true_iff]
    omega
theorem ltB_no {a b : Nat × Nat × Nat} : ltB a b = false ↔ ¬ (a.1 < b.1 ∨ (a.1 = b.1 ∧ (a.2.1 < b.2.1 ∨ (a.2.1 = b.2.1 ∧ a.2.2 < b.2.2)))) := by
  rw [← ltB_iff]
  cases ltB a b <;> simp
def b3D (z : Nat × Nat × Nat) : PyData := .tuple [.int z.1, .int z.2.1, .int z.2.2]
theorem b3D_lt (a b : Nat × Nat × Nat) : dataLt (b3D a) (b3D b) = ltB a b := by
  unfold b3D ltB
  rw [PySem.W.dataLt_tuple]
  by_cases e1 : a.1 = b.1
  · rw [if_pos e1, PySem.W.dataLt_all_yes (by simp [alike]) (by rw [int_eqv, e1]; exact decide_eq_true rfl)]
    by_cases e2 : a.2.1 = b.2.1
    · rw [if_pos e2, PySem.W.dataLt_all_yes (by simp [alike]) (by rw [int_eqv, e2]; exact decide_eq_true rfl)]
      by_cases e3 : a.2.2 = b.2.2
      · rw [PySem.W.dataLt_all_yes (by simp [alike]) (by rw [int_eqv, e3]; exact decide_eq_true rfl), e3, decide_eq_false (Nat.lt_irrefl _)]
        simp [PySem.W.keyToksAll, PyProof.Rows.lexLt]
        rfl
      · rw [PySem.W.dataLt_all_no (by simp [alike]) (by rw [int_eqv]; exact decide_eq_false (by omega)), PySem.W.dataLt_int]
        by_cases c : a.2.2 < b.2.2
        · rw [decide_eq_true c, decide_eq_true (by omega)]
        · rw [decide_eq_false c, decide_eq_false (by omega)]
    · rw [if_neg e2, PySem.W.dataLt_all_no (by simp [alike]) (by rw [int_eqv]; exact decide_eq_false (by omega)), PySem.W.dataLt_int]
      by_cases c : a.2.1 < b.2.1
      · rw [decide_eq_true c, decide_eq_true (by omega)]
      · rw [decide_eq_false c, decide_eq_false (by omega)]
  · rw [if_neg e1, PySem.W.dataLt_all_no (by simp [alike]) (by rw [int_eqv]; exact decide_eq_false (by omega)), PySem.W.dataLt_int]
    by_cases c : a.1 < b.1
    · rw [decide_eq_true c, decide_eq_true (by omega)]
    · rw [decide_eq_false c, decide_eq_false (by omega)]
def minB (x : Nat × Nat × Nat) (xs : List (Nat × Nat × Nat)) : Nat × Nat × Nat := xs.foldl (fun a y => if ltB y a then y else a) x
theorem minD_b3 : ∀ (xs : List (Nat × Nat × Nat)) (x : Nat × Nat × Nat), minD (b3D x) (xs.map b3D) = b3D (minB x xs)
  | [], x => rfl
  | y :: ys, x => by
    show minD (if dataLt (b3D y) (b3D x) = true then b3D y else b3D x) (ys.map b3D) = b3D (minB (if ltB y x then y else x) ys)
    rw [b3D_lt]
    by_cases c : ltB y x = true
    · rw [if_pos c, if_pos c]
      exact minD_b3 ys y
    · rw [if_neg c, if_neg c]
      exact minD_b3 ys x
theorem minB_spec : ∀ (xs : List (Nat × Nat × Nat)) (x : Nat × Nat × Nat), minB x xs ∈ x :: xs ∧ ∀ y ∈ x :: xs, ltB y (minB x xs) = false
  | [], x => ⟨List.mem_cons_self, fun y hy => by
    rw [List.mem_singleton.mp hy]
    exact ltB_no.mpr (by show ¬ (x.1 < x.1 ∨ (x.1 = x.1 ∧ (x.2.1 < x.2.1 ∨ (x.2.1 = x.2.1 ∧ x.2.2 < x.2.2)))); omega)⟩
  | z :: r, x => by
    obtain ⟨h1, h2⟩ := minB_spec r (if ltB z x then z else x)
    have e : minB x (z :: r) = minB (if ltB z x then z else x) r := rfl
    rw [e]
    have h3 := ltB_no.mp (h2 _ List.mem_cons_self)
    refine ⟨?_, fun y hy => ?_⟩
    · rcases List.mem_cons.mp h1 with q | q
      · rw [q]
        split <;> simp
      · exact List.mem_cons_of_mem _ (List.mem_cons_of_mem _ q)
    · generalize minB (if ltB z x then z else x) r = m at h2 h3
      by_cases c : ltB z x = true
      · rw [if_pos c] at h3 h2
        have c' := ltB_iff.mp c
        rcases List.mem_cons.mp hy with q | q
        · rw [q]
          exact ltB_no.mpr (by omega)
        · rcases List.mem_cons.mp q with q | q
          · rw [q]
            exact ltB_no.mpr h3
          · exact h2 y (List.mem_cons_of_mem _ q)
      · rw [if_neg c] at h3 h2
        have c' := ltB_no.mp (Bool.eq_false_iff.mpr c)
        rcases List.mem_cons.mp hy with q | q
        · rw [q]
          exact ltB_no.mpr h3
        · rcases List.mem_cons.mp q with q | q
          · rw [q]
            exact ltB_no.mpr (by omega)
          · exact h2 y (List.mem_cons_of_mem _ q)
theorem b3D_inj {a b : Nat × Nat × Nat} (e : b3D a = b3D b) : a = b := by
  unfold b3D at e
  simp at e
  exact Prod.ext (by omega) (Prod.ext (by omega) (by omega))
theorem b3_alike (l : List (Nat × Nat × Nat)) : AlikeAll (l.map b3D) := by
  refine ⟨fun x hx y hy => ?_, fun x hx => ?_⟩
  · obtain ⟨s, _, rfl⟩ := List.mem_map.mp hx
    obtain ⟨t, _, rfl⟩ := List.mem_map.mp hy
    simp [b3D, alike, alikeAll]
  · obtain ⟨s, _, rfl⟩ := List.mem_map.mp hx
    intro e
    cases e
theorem b3_depth (l : List (Nat × Nat × Nat)) : PyData.depthAll (l.map b3D) ≤ 1 := by
  induction l with
  | nil => simp [PyData.depthAll]
  | cons z r ih =>
    have e : (b3D z).depth = 1 := by simp [b3D, PyData.depth, PyData.depthAll]
    rw [List.map_cons, PyData.depthAll]
    omega
def BAt (H : Hp) (v : V) (z : Nat × Nat × Nat) : Prop := ∃ u, v = .ref u ∧ H u = some (.tup [.int z.1, .int z.2.1, .int z.2.2])
theorem BAt.keep {H H' : Hp} {v : V} {z : Nat × Nat × Nat} (k : TupKeep H H') (q : BAt H v z) : BAt H' v z := by
  obtain ⟨u, e, hu⟩ := q
  exact ⟨u, e, k _ _ hu⟩
theorem bs_dp {K : PySem.W.Frag} {H : Hp} {vs : List V} {l : List (Nat × Nat × Nat)} (q : Paired (BAt H) vs l) : DpAll K H vs (l.map b3D) := by
  induction q with
  | nil => exact .nil
  | cons r _ ih =>
    obtain ⟨u, rfl, hu⟩ := r
    exact .cons (.tup (SqT.of hu) (.cons (.int _) (.cons (.int _) (.cons (.int _) .nil)))) ih
theorem bMin {H : Hp} {us : List V} {z : Nat × Nat × Nat} {zs : List (Nat × Nat × Nat)} (q : Paired (BAt H) us (z :: zs)) {i : Nat} {x : V} (hx : us[i]? = some x) (hd : (b3D z :: zs.map b3D)[i]? = some (minD (b3D z) (zs.map b3D))) : BAt H x (minB z zs) := by
  have hil : i < (z :: zs).length := by rw [← q.length]; exact (List.getElem?_eq_some_iff.mp hx).1
  obtain ⟨v', hv', hs⟩ := Paired.get? (i := i) q (List.getElem?_eq_getElem hil)
  obtain rfl : v' = x := Option.some.inj (hv'.symm.trans hx)
  have e2 : ((z :: zs).map b3D)[i]? = some (b3D (z :: zs)[i]) := by rw [List.getElem?_map, List.getElem?_eq_getElem hil]; rfl
  rw [List.map_cons, hd, minD_b3] at e2
  rw [b3D_inj (Option.some.inj e2)]
  exact hs
end
/-! the worst case of a letter -/
def wstL (res : List NK) : Nat := (res.map fun k => res.count k).foldl max 0
theorem fmax_spec : ∀ (l : List Nat) (a : Nat), (l.foldl max a = a ∨ l.foldl max a ∈ l) ∧ a ≤ l.foldl max a ∧ ∀ y ∈ l, y ≤ l.foldl max a
  | [], a => ⟨.inl rfl, Nat.le_refl _, fun y h => by cases h⟩
  | x :: r, a => by
    obtain ⟨h1, h2, h3⟩ := fmax_spec r (max a x)
    have e : (x :: r).foldl max a = r.foldl max (max a x) := rfl
    rw [e]
    refine ⟨?_, by omega, fun y hy => ?_⟩
    · rcases h1 with z | z
      · by_cases c : a ≤ x
        · exact .inr (by rw [z, Nat.max_eq_right c]; exact List.mem_cons_self)
        · exact .inl (by rw [z, Nat.max_eq_left (by omega)])
      · exact .inr (List.mem_cons_of_mem _ z)
    · rcases List.mem_cons.mp hy with z | z
      · omega
      · exact h3 y z
theorem wst_of {rows : List NRow} {res : List NK} (c : CntOk rows res) {m : Int} (h1 : m ∈ rows.map fun r => (res.count r.1 : Int)) (h2 : ∀ y ∈ rows.map (fun r => (res.count r.1 : Int)), y ≤ m) : m = (wstL res : Nat) := by
  obtain ⟨a, b, d⟩ := fmax_spec (res.map fun k => res.count k) 0
  obtain ⟨r, hr, rfl⟩ := List.mem_map.mp h1
  have k1 : r.1 ∈ res := (c.keys _).mp (List.mem_map.mpr ⟨r, hr, rfl⟩)
  have i1 := d _ (List.mem_map.mpr ⟨r.1, k1, rfl⟩)
  have i2 : wstL res ≤ res.count r.1 := by
    rcases a with z | z
    · show List.foldl max 0 _ ≤ _
      rw [z]
      exact Nat.zero_le _
    · obtain ⟨k, hk, e⟩ := List.mem_map.mp z
      obtain ⟨r2, hr2, e2⟩ := List.mem_map.mp ((c.keys k).mpr hk)
      have := h2 _ (List.mem_map.mpr ⟨r2, hr2, rfl⟩)
      rw [e2] at this
      unfold wstL
      rw [← e]
      exact Int.ofNat_le.mp this
  have i3 : res.count r.1 ≤ wstL res := i1
  omega
theorem cnt_vals {rows : List NRow} {res : List NK} (c : CntOk rows res) : rows.map (·.2.2) = (rows.map fun r => (res.count r.1 : Int)).map V.int := by
  rw [List.map_map]
  exact List.map_congr_left fun r hr => c.cnt r hr
def wst (S : WatS) (hs dy : Nat) : Nat := wstL (resL S hs dy)
def rowB (S : WatS) (f hs n : Nat) : List (Nat × Nat × Nat) := (List.range n).map fun i => (wst S hs (f + i), hs, f + i)
def allB (S : WatS) (f n : Nat) : List (Nat × Nat × Nat) := (List.range n).flatMap fun hs => rowB S f hs S.p
theorem rowB_succ {S : WatS} {f hs n : Nat} : rowB S f hs (n + 1) = rowB S f hs n ++ [(wst S hs (f + n), hs, f + n)] := by
  unfold rowB
  rw [List.range_succ, List.map_append]
  rfl
theorem allB_succ {S : WatS} {f n : Nat} : allB S f (n + 1) = allB S f n ++ rowB S f n S.p := by
  unfold allB
  rw [List.range_succ, List.flatMap_append, List.flatMap_singleton]
theorem mem_allB {S : WatS} {f n : Nat} {z : Nat × Nat × Nat} : z ∈ allB S f n ↔ z.2.1 < n ∧ f ≤ z.2.2 ∧ z.2.2 < f + S.p ∧ z.1 = wst S z.2.1 z.2.2 := by
  unfold allB rowB
  rw [List.mem_flatMap]
  constructor
  · rintro ⟨hs, h1, h2⟩
    obtain ⟨i, hi, rfl⟩ := List.mem_map.mp h2
    have := List.mem_range.mp h1
    have := List.mem_range.mp hi
    exact ⟨by assumption, by show f ≤ f + i; omega, by show f + i < f + S.p; omega, rfl⟩
  · rintro ⟨h1, h2, h3, h4⟩
    refine ⟨z.2.1, List.mem_range.mpr h1, List.mem_map.mpr ⟨z.2.2 - f, List.mem_range.mpr (by omega), ?_⟩⟩
    have e : f + (z.2.2 - f) = z.2.2 := by omega
    rw [e]
    exact Prod.ext h4.symm rfl
theorem rowB_len {S : WatS} {f hs n : Nat} : (rowB S f hs n).length = n := by
  unfold rowB
  rw [List.length_map, List.length_range]
theorem allB_len {S : WatS} {f : Nat} : ∀ {n : Nat}, (allB S f n).length = n * S.p
  | 0 => by rw [Nat.zero_mul]; rfl
  | n + 1 => by rw [allB_succ, List.length_append, allB_len, rowB_len, Nat.succ_mul]
/-- the best letter -/
structure BestOk (S : WatS) (f hs dy : Nat) : Prop where
  hh : hs < S.h
  lo : f ≤ dy
  hi : dy < f + S.p
  best : ∀ hs' dy', hs' < S.h → f ≤ dy' → dy' < f + S.p → wst S hs dy < wst S hs' dy' ∨ (wst S hs dy = wst S hs' dy' ∧ (hs < hs' ∨ (hs = hs' ∧ dy ≤ dy')))
theorem best_of {S : WatS} {f : Nat} {z : Nat × Nat × Nat} {zs : List (Nat × Nat × Nat)} (e : allB S f S.h = z :: zs) : BestOk S f (minB z zs).2.1 (minB z zs).2.2 := by
  obtain ⟨h1, h2⟩ := minB_spec zs z
  rw [← e] at h1 h2
  obtain ⟨a, b, c, d⟩ := mem_allB.mp h1
  refine ⟨a, b, c, fun hs' dy' x y w => ?_⟩
  have h := ltB_no.mp (h2 (wst S hs' dy', hs', dy') (mem_allB.mpr ⟨x, y, w, rfl⟩))
  rw [← d]
  show (minB z zs).1 < wst S hs' dy' ∨ _
  have h' : ¬ (wst S hs' dy' < (minB z zs).1 ∨ (wst S hs' dy' = (minB z zs).1 ∧ (hs' < (minB z zs).2.1 ∨ (hs' = (minB z zs).2.1 ∧ dy' < (minB z zs).2.2)))) := h
  omega
theorem same_back {Ha Hb : Hp} {b : Addr} (e : Same Ha Hb) (z : Hb b = none) : Ha b = none := by
  cases q : Ha b with
  | none => rfl
  | some o => rw [e _ _ q] at z; cases z
def spWBest (O C : Addr) : Sp := fun vs H Q _ => ∃ (s : Addr) (S : WatS) (f : Nat), vs = [.ref s, .int f] ∧ WatAt O C H s S ∧ S.rem ≠ [] ∧ S.rem.length ≤ 100 ∧ f ≤ 1000000000000 ∧
  ∀ (H' : Hp) (r : Addr) (hs dy : Nat), Same H H' → H r = none → H' r = some (.tup [.int hs, .int dy]) → BestOk S f hs dy → Q (.ref r) H'
abbrev s_Watcher_see_all : Stmt := inClass (top 42) 2
abbrev N_Watcher_see_all : List Str := ["self", "letters", "remaining", "observed", "house", "day", "result", "candidate"]
abbrev P_Watcher_see_all : List Str := ["self", "letters"]
theorem sc_Watcher_see_all : FnScope N_Watcher_see_all P_Watcher_see_all (defScope s_Watcher_see_all) := ⟨rfl, rfl, rfl, by decide +kernel, rfl, by decide +kernel, by decide +kernel⟩
abbrev s_Watcher_see : Stmt := inClass (top 42) 1
abbrev N_Watcher_see : List Str := ["self", "house", "day", "result"]
abbrev P_Watcher_see : List Str := ["self", "house", "day", "result"]
theorem sc_Watcher_see : FnScope N_Watcher_see P_Watcher_see (defScope s_Watcher_see) := ⟨rfl, rfl, rfl, by decide +kernel, rfl, by decide +kernel, by decide +kernel⟩
/-! ### letters seen -/
section
variable {P : Program} {w : World} {K : PySem.W.Frag} {mg : Str → Option Value} {base : Heap}
/-- a def with one parameter and a star parameter -/
theorem fun_star1 {x qual p1 pv : Str} {st : Stmt} {f : Addr} {fd : FuncData} {N : List Str} {k : Nat} {sp : Sp} (F : Fun K x qual st f fd) (S : FnScope N ([p1] ++ [pv]) (defScope st))
    (h0 : ∀ (kV doc pm : Value) (an : Option Addr) (cdv ct a : Value), bindArgs (PySem.W.fnOf x qual (defArgs st) (defBody st) (defScope st) .none kV doc pm an cdv ct) ⟨[a], []⟩ = (newTuple [] >>= fun t => pure [(p1, a), (pv, t)]))
    (h1 : ∀ (kV doc pm : Value) (an : Option Addr) (cdv ct a r : Value) (rs : List Value), bindArgs (PySem.W.fnOf x qual (defArgs st) (defBody st) (defScope st) .none kV doc pm an cdv ct) ⟨a :: r :: rs, []⟩ = (newTuple (r :: rs) >>= fun t => pure [(p1, a), (pv, t)]))
    (hbody : ∀ (cdv : Value) (A : Around) (outer : List Env) (s : Shared) (H : Hp) (vs : List V) (Q : VK) (E : XK), Room k (A.deeper (PyProof.Rows.envOfC qual (defScope st) s.heap.objs.size f cdv)) → sp vs H Q E →
      ∃ t, PSs (cxOf CX0 P w K mg base N qual (defScope st) f cdv A outer s H E).nox (defBody st) t ∧ t { nx := fun _ H' => Q .non H', rt := Q } (L2.start N vs) H) :
    FnR P w K mg base CX0 (k + 1) f (fun vs H Q E => ∃ a rest, vs = a :: rest ∧ rest.length ≤ sizeLine ∧ ∀ p, H p = none → sp [a, .ref p] (upd H p (.tup rest)) Q E) := by
  obtain ⟨oc, od, kV, doc, pm, an, cdv, ct, osl, rfl, lk, hcd⟩ := F.ex
  have g := StX.fn_star (CX := CX0) (P := P) (w := w) (K := K) (mg := mg) (base := base) (k := k) (ps := [p1]) (pv := pv) (sp := sp) lk hcd S StX.cxUp_none
    (StX.bind_star1 (B := fun us => bindArgs (PySem.W.fnOf x qual (defArgs st) (defBody st) (defScope st) .none kV doc pm an cdv ct) ⟨us, []⟩) (h0 kV doc pm an cdv ct) (h1 kV doc pm an cdv ct))
    fun A outer s H vs Q E hr hsp => by
      obtain ⟨t, h, q⟩ := hbody cdv A outer s H vs Q E hr hsp
      exact ⟨t, h.nox, q⟩
  exact g.imp fun vs H Q E ⟨a, rest, e, hz, h⟩ => ⟨[a], rest, e, rfl, hz, h⟩
end
def okO (S : WatS) (b : Obs) (c : Nat × Nat) : Bool := decide (dst S.p S.h (candO S c) b.1 = b.2)
def remA (S : WatS) (obs : List Obs) : List (Nat × Nat) := S.rem.filter fun c => obs.all fun b => okO S b c
def WatS.seen (S : WatS) (obs : List Obs) (r a : Addr) : WatS := { S with r := r, rem := remA S obs, a := a, acc := S.acc ++ obs }
theorem remA_nil {S : WatS} : remA S [] = S.rem := by
  unfold remA
  rw [List.filter_eq_self]
  exact fun _ _ => rfl
theorem remA_snoc {S : WatS} {obs : List Obs} {b : Obs} : remA S (obs ++ [b]) = (remA S obs).filter (okO S b) := by
  unfold remA
  rw [List.filter_filter]
  refine List.filter_congr fun c _ => ?_
  rw [List.all_append, List.all_cons, List.all_nil, Bool.and_true, Bool.and_comm]
theorem remA_take {S : WatS} {obs : List Obs} (i : Nat) (h : remA S obs ≠ []) : remA S (obs.take i) ≠ [] := by
  obtain ⟨c, hc⟩ := List.exists_mem_of_ne_nil _ h
  obtain ⟨h1, h2⟩ := List.mem_filter.mp hc
  refine List.ne_nil_of_mem (a := c) (List.mem_filter.mpr ⟨h1, ?_⟩)
  rw [List.all_eq_true] at h2 ⊢
  exact fun b hb => h2 b (List.mem_of_mem_take hb)
theorem remA_len {S : WatS} {obs : List Obs} : (remA S obs).length ≤ S.rem.length := List.length_filter_le _ _
/-! what stands when one watcher changes -/
theorem wat_net {C O H' : Addr} {H : Hp} {x s dx a b c d : Addr} {p h : Nat} {os : List Od} {t : Addr} {F : List Addr} (N : NetAt C H x p h os t F) (hs : H s = some (.ins O dx (WtFs a b c d))) : s ∉ F := by
  obtain ⟨dn, fl, as, rfl, h1, h2, h3, h4, h5⟩ := N
  intro z
  rcases List.mem_cons.mp z with z | z
  · rw [z, h1] at hs
    have e := (HO.ins.inj (Option.some.inj hs)).2.2
    have e1 := nf_pe (p := p) (h := h) (t := t) (fl := fl)
    rw [e, wf_no (by decide +kernel) (by decide +kernel) (by decide +kernel) (by decide +kernel)] at e1
    cases e1
  rcases List.mem_cons.mp z with z | z
  · rw [z, h3] at hs
    cases hs
  · obtain ⟨j, hj⟩ := List.getElem?_of_mem z
    rw [h5 j _ hj] at hs
    cases hs
theorem But.tki {H H' : Hp} {s O dx : Addr} {fs : List (Str × V)} (b : But s H H') (hs : H s = some (.ins O dx fs)) : TupKeep H H' := fun c xs e => b c _ (ne_of e hs (by intro z; cases z)) e
theorem CandsAt.but {p h k : Nat} {os : List Od} {o : Od} {H H' : Hp} {w s O dx : Addr} {fs : List (Str × V)} {cs : List ((Nat × Nat) × Addr)} (W : CandsAt p h os k o H w cs) (b : But s H H') (hs : H s = some (.ins O dx fs)) : CandsAt p h os k o H' w cs :=
  ⟨b _ _ (ne_of W.tab hs (by intro z; cases z)) W.tab, W.ne, fun c hc => by
    obtain ⟨ks, f, a, q⟩ := W.ways c hc
    exact ⟨ks, f, ⟨b _ _ (ne_of a.tab hs (by intro z; cases z)) a.tab, a.nd, a.ok, fun q hq => (a.ways q hq).keep (b.tki hs)⟩, q⟩⟩
theorem WatAt.step {O C : Addr} {H H' : Hp} {s dx r a : Addr} {S : WatS} {rem : List (Nat × Nat)} {acc : List Obs} (A : WatAt O C H s S) (b : But s H H') (hi : H' s = some (.ins O dx (WtFs S.x S.w r a))) (hr : ∃ vs, H' r = some (.lst vs) ∧ Paired (StopAt H') vs rem) (hsub : ∀ c ∈ rem, c ∈ S.rem) (ha : ∃ vs, H' a = some (.lst vs) ∧ Paired (ObsAt H') vs acc) : WatAt O C H' s { S with r := r, rem := rem, a := a, acc := acc } := by
  obtain ⟨d0, h0⟩ := A.ins
  exact ⟨⟨dx, hi⟩, A.net.but b (b.tki h0) (wat_net (H' := s) A.net h0), A.ok, A.ord, A.ways.but b h0, A.all, hr, fun c hc => A.sub c (hsub c hc), ha⟩
theorem WatAt.other {O O' C C' : Addr} {H H' : Hp} {s s' : Addr} {S S' : WatS} (A : WatAt O C H s S) (b : But s' H H') (n : s ≠ s') (A' : WatAt O' C' H s' S') : WatAt O C H' s S := by
  obtain ⟨d0, h0⟩ := A.ins
  obtain ⟨d1, h1⟩ := A'.ins
  have tk := b.tki h1
  obtain ⟨rv, h7, h8⟩ := A.rem
  obtain ⟨av, h10, h11⟩ := A.acc
  exact ⟨⟨d0, b _ _ n h0⟩, A.net.but b tk (wat_net (H' := s) A.net h1), A.ok, A.ord, A.ways.but b h1, A.all, ⟨rv, b _ _ (ne_of h7 h1 (by intro z; cases z)) h7, Paired.mapP h8 fun _ _ z => z.keep tk⟩, A.sub, ⟨av, b _ _ (ne_of h10 h1 (by intro z; cases z)) h10, Paired.mapP h11 fun _ _ z => z.keep tk⟩⟩
theorem wt_rem {x w r a r' : Addr} : putF "remaining" (V.ref r') (WtFs x w r a) = WtFs x w r' a := by
  have h1 : ¬ ("net" : Str) = "remaining" := by decide +kernel
  have h2 : ¬ ("ways" : Str) = "remaining" := by decide +kernel
  unfold WtFs
  simp only [putF, if_neg h1, if_neg h2]
  rfl
theorem wt_acc {x w r a a' : Addr} : putF "accepted" (V.ref a') (WtFs x w r a) = WtFs x w r a' := by
  have h1 : ¬ ("net" : Str) = "accepted" := by decide +kernel
  have h2 : ¬ ("ways" : Str) = "accepted" := by decide +kernel
  have h3 : ¬ ("remaining" : Str) = "accepted" := by decide +kernel
  unfold WtFs
  simp only [putF, if_neg h1, if_neg h2, if_neg h3]
  rfl
def spWAllI (O C : Addr) : Sp := fun vs H Q _ => ∃ (s p : Addr) (S : WatS) (obs : List Obs) (us : List V), vs = [.ref s, .ref p] ∧ H p = some (.tup us) ∧ WatAt O C H s S ∧ Paired (ObsAt H) us obs ∧ (∀ b ∈ obs, b.1.1 < S.h ∧ b.1.2 ≤ 1000000000000000000 ∧ ∀ c, b.2 = some c → c.1 < S.h) ∧ remA S obs ≠ [] ∧ S.rem.length ≤ 100 ∧ S.acc.length + obs.length ≤ 500 ∧
  ∀ H' r a, But s H H' → WatAt O C H' s (S.seen obs r a) → Q (.int (remA S obs).length) H'
def spWAll (O C : Addr) : Sp := fun vs H Q _ => ∃ (s : Addr) (S : WatS) (obs : List Obs) (us : List V), vs = .ref s :: us ∧ WatAt O C H s S ∧ Paired (ObsAt H) us obs ∧ (∀ b ∈ obs, b.1.1 < S.h ∧ b.1.2 ≤ 1000000000000000000 ∧ ∀ c, b.2 = some c → c.1 < S.h) ∧ remA S obs ≠ [] ∧ S.rem.length ≤ 100 ∧ S.acc.length + obs.length ≤ 500 ∧
  ∀ H' r a, But s H H' → WatAt O C H' s (S.seen obs r a) → Q (.int (remA S obs).length) H'
section
variable {P : Program} {w : World} {K : PySem.W.Frag} {mg : Str → Option Value} {base : Heap}
theorem ok_w_all {f fR O C : Addr} {fd fdR : FuncData} (F : Fun K "see_all" "Watcher.see_all" s_Watcher_see_all f fd) (B : Blt mg) (T : WatT K O) (TN : NetT K C) (DL : Df P w K mg base "check_letter" 4 P_check_letter (spLetter C)) (DR : Df P w K mg base "check_result" 3 P_check_result (spChkRes C))
    (mR : Meth K O "result_with" fR) (GR : FnOk P w K mg base CX0 3 fR fdR P_Watcher_result_with (spWRes O C)) (bR : Binds K fdR P_Watcher_result_with []) : FnR P w K mg base CX0 5 f (spWAll O C) := by
  obtain ⟨fL, fdL, gL, kL, bL, GL⟩ := DL
  obtain ⟨fC, fdC, gC, kC, bC, GC⟩ := DR
  refine (fun_star1 F (p1 := "self") (pv := "letters") (sp := spWAllI O C) sc_Watcher_see_all (fun _ _ _ _ _ _ _ => rfl) (fun _ _ _ _ _ _ _ _ _ => rfl) (fun cdv A outer s0 H vs Q E hr h => ?_)).imp fun vs H Q E h => ?_
  · obtain ⟨s, p, S, obs, us, rfl, hp, W0, hus, hob, rne, rl, al, q⟩ := h
    have hu : (A.deeper (PyProof.Rows.envOfC "Watcher.see_all" (defScope s_Watcher_see_all) s0.heap.objs.size f cdv)).units + 64 < cLine := by
      have := hr.un
      omega
    have hr3 : Room 3 (A.deeper (PyProof.Rows.envOfC "Watcher.see_all" (defScope s_Watcher_see_all) s0.heap.objs.size f cdv)) := hr.mono (by decide)
    refine ⟨_, pss_cons (ps_set (i := 2) sc_Watcher_see_all.nd rfl (.inl rfl) (pe_fld (pv 0) rfl))
      (pss_cons (ps_set (i := 3) sc_Watcher_see_all.nd rfl (.inl rfl) (pe_lst pa_nil))
      (pss_cons (ps_for PassesOwn.never rfl (pi_tup (pv 1)) (pg_tup (by rfl) (pgs_cons (pg_name (i := 4) sc_Watcher_see_all.nd rfl (.inr rfl)) (pgs_cons (pg_name (i := 5) sc_Watcher_see_all.nd rfl (.inr rfl)) (pgs_cons (pg_name (i := 6) sc_Watcher_see_all.nd rfl (.inr rfl)) pgs_nil))))
        (pss_cons (ps_expr (pe_call GL hr (by rfl) gL kL bL .nil pass0 (pa_cons (pe_fld (pv 0) rfl) (pa_cons (pv 4) (pa_cons (pv 5) pa_nil)))))
        (pss_cons (ps_expr (pe_call GC hr3 (by rfl) gC kC bC .nil pass0 (pa_cons (pe_fld (pv 0) rfl) (pa_cons (pv 6) pa_nil))))
        (pss_cons (ps_setLc (i := 2) (own := [("candidate", 7)]) (g := gName 7) (tt := tTest (tOp (rEqD K) (tMeth O "result_with" (spWRes O C) [] E0 (tVar 0) (tCons (tVar 7) (tCons (tVar 4) (tCons (tVar 5) tNil)))) (tVar 6))) (te := tVar 7) (by rfl) sc_Watcher_see_all.nd rfl rfl (sw_true rfl rfl rfl (by decide +kernel))
          (pi_list (pv 2)) (blkOk_by (N := N_Watcher_see_all) (sc := defScope s_Watcher_see_all) (by decide +kernel)) (fun _ _ _ _ _ => pg_name (i := 7) sc_Watcher_see_all.nd rfl (.inl rfl))
          (fun _ _ _ _ _ => pts_one (pt_cmpR (op_eqD hu) (pe_meth (pv 0) T.cl mR GR hr3 bR .nil pass0 (pa_cons (pv 7) (pa_cons (pv 4) (pa_cons (pv 5) pa_nil)))) (pv 6) (nomark _))) (fun _ _ _ _ _ => pv 7))
        (pss_cons (ps_if (pt_not (pt_truth (pv 2) (fun _ => rfl))) (pss_one ps_never) pss_nil)
        (pss_one (ps_expr (pe_bm PySem.F.plainAttrs_list PySem.F.slot_list_append PySem.F.type_list_append mt_append (pv 3) (pa_cons (pe_tup (pa_cons (pv 4) (pa_cons (pv 5) (pa_cons (pv 6) pa_nil)))) pa_nil)))))))))
      (pss_cons (ps_fld (pv 0) (pv 2) rfl)
      (pss_cons (ps_fld (pv 0) (pe_op op_cat (pe_fld (pv 0) rfl) (pv 3)) rfl)
      (pss_one (ps_ret (pe_callB call_len_seq (by rfl) B.len PySem.boot_len (pa_cons (pv 2) pa_nil)))))))), ?_⟩
    obtain ⟨dx, h1⟩ := W0.ins
    obtain ⟨rv0, h7, h8⟩ := W0.rem
    obtain ⟨av0, h10, h11⟩ := W0.acc
    obtain ⟨dn, _, _, _, hn, _⟩ := id W0.net
    refine ⟨_, rfl, s, O, dx, _, _, rfl, h1, T.cl, T.nR, wf_r, ?_⟩
    refine ⟨Nat.zero_le _, fun L nL => ?_⟩
    have sL := same_upd (o := HO.lst []) nL
    refine ⟨_, rfl, p, rfl, ⟨us, SqT.of (sL _ _ hp)⟩, ?_⟩
    refine for_tup (K := K) (a := p) (xs := us) (fun i σ H' => ∃ (ri : Addr) (rv us' : List V) (y4 y5 y6 : Option V), σ = [some (.ref s), some (.ref p), some (.ref ri), some (.ref L), y4, y5, y6, none] ∧ Same H H' ∧ H' ri = some (.lst rv) ∧ Paired (StopAt H') rv (remA S (obs.take i)) ∧ ri ≠ L ∧ H' L = some (.lst us') ∧ Paired (ObsAt H') us' (obs.take i))
      ⟨S.r, rv0, [], _, _, _, rfl, sL, sL _ _ h7, by rw [List.take_zero, remA_nil]; exact Paired.mapP h8 fun _ _ z => z.keep (tk_of sL), ne_of_none h7 nL, upd_same, .nil⟩ (fun i σ H' _ ⟨_, _, _, _, _, _, _, e, _⟩ => SqT.of (e _ _ hp)) ?_ ?_
    · rintro i v σ H2 hi ⟨ri, rv, us', y4, y5, y6, rfl, s2, hri, hrv, nri, hL2, hus2⟩
      have lt : i < obs.length := by rw [← hus.length]; exact (List.getElem?_eq_some_iff.mp hi).1
      have ei := List.getElem?_eq_getElem lt
      obtain ⟨v', hv', hc⟩ := Paired.get? (i := i) hus ei
      obtain rfl : v' = v := Option.some.inj (hv'.symm.trans hi)
      have hm := hob _ (List.getElem_mem lt)
      have tk1 : obs.take (i + 1) = obs.take i ++ [obs[i]] := by rw [List.take_add_one, ei]; rfl
      have rne1 := remA_take (i + 1) rne
      rw [tk1] at rne1 ⊢
      generalize obs[i] = b at hc hm rne1
      obtain ⟨u, y, rfl, hu1, hy⟩ := hc
      obtain ⟨b1, b2, b3⟩ := hm
      have hu2 := s2 _ _ hu1
      have hy2 := OptStop.keep (tk_of s2) hy
      refine ⟨u, _, rfl, SqT.of hu2, rfl, _, _, rfl, _, _, rfl, _, _, rfl, rfl, ?_⟩
      refine ⟨_, rfl, s, O, dx, _, _, rfl, s2 _ _ h1, T.cl, T.nN, wf_n, _, rfl, _, rfl, S.x, S.t, S.p, S.h, b.1.1, b.1.2, S.os, S.F, rfl, W0.net.same s2, b1, b2, ?_⟩
      refine ⟨_, rfl, s, O, dx, _, _, rfl, s2 _ _ h1, T.cl, T.nN, wf_n, _, rfl, S.x, S.t, S.p, S.h, S.os, S.F, y, b.2, rfl, W0.net.same s2, W0.ok.h1, hy2, b3, ?_⟩
      refine ⟨_, rfl, ri, rfl, ⟨_, SqL.of hri⟩, fun D nD => ?_⟩
      have nDri : ri ≠ D := ne_of_none hri nD
      have nDL : L ≠ D := ne_of_none hL2 nD
      have sD := same_upd (o := HO.lst []) nD
      refine lc_list (K := K) (a := ri) (xs := rv) (fun j H' => ∃ acc, Same H2 H' ∧ H' D = some (.lst acc) ∧ Paired (StopAt H') acc (((remA S (obs.take i)).take j).filter (okO S b)))
        ⟨[], sD, upd_same, .nil⟩ (fun j H' _ ⟨_, e, _⟩ => SqL.of (e _ _ hri)) ?_ ?_
      · rintro j x H3 hj ⟨acc, s3, hD3, hacc⟩
        have ltj : j < (remA S (obs.take i)).length := by rw [← hrv.length]; exact (List.getElem?_eq_some_iff.mp hj).1
        have ej := List.getElem?_eq_getElem ltj
        obtain ⟨x', hx', hxc⟩ := Paired.get? (i := j) hrv ej
        obtain rfl : x' = x := Option.some.inj (hx'.symm.trans hj)
        have hmem : (remA S (obs.take i))[j] ∈ S.rem := (List.mem_filter.mp (List.getElem_mem ltj)).1
        have e1 : ((remA S (obs.take i)).take (j + 1)).filter (okO S b) = ((remA S (obs.take i)).take j).filter (okO S b) ++ [(remA S (obs.take i))[j]].filter (okO S b) := by
          rw [List.take_add_one, ej, List.filter_append]
          rfl
        rw [e1]
        have la : acc.length ≤ 100 := by
          rw [hacc.length]
          have q1 := List.length_filter_le (okO S b) ((remA S (obs.take i)).take j)
          have q2 := List.length_take_le j (remA S (obs.take i))
          have q3 := remA_len (S := S) (obs := obs.take i)
          omega
        generalize (remA S (obs.take i))[j] = c at hxc hmem
        refine ⟨rfl, _, rfl, s, dx, _, rfl, s3 _ _ (s2 _ _ h1), wf_no (by decide +kernel) (by decide +kernel) (by decide +kernel) (by decide +kernel), _, rfl, _, rfl, _, rfl, s, S, x', c, b.1.1, b.1.2, rfl, (W0.same s2).same s3, hxc.keep (tk_of s3), W0.sub _ hmem, b1, fun H4 y4' s4 hy4 => ?_⟩
        refine ⟨_, rfl, _, _, opt_dp hy4, opt_dp (OptStop.keep (tk_of (s3.trans s4)) hy2), optD_shaped _, optD_shaped _, _, rfl, ?_⟩
        rw [optD_eqv]
        refine ite2 (fun t => ?_) (fun t => ?_)
        · have e2 : okO S b c = true := t
          rw [List.filter_cons_of_pos e2, List.filter_nil]
          have hD4 := s4 _ _ hD3
          have k6 : TupKeep H3 _ := (tk_of s4).trans (TupKeep.lst (o := HO.lst (acc ++ [x'])) hD4)
          have k7 : TupKeep H2 _ := (tk_of s3).trans k6
          refine ⟨_, rfl, acc, hD4, Nat.lt_of_le_of_lt la (small1000 (by omega)), acc ++ [x'], fun q o e => ?_, upd_same, Paired.snoc (Paired.mapP hacc fun _ _ z => z.keep k6) (hxc.keep k7)⟩
          rw [upd_ne (ne_of_none e nD)]
          exact s4 _ _ (s3 _ _ e)
        · have e2 : ¬ okO S b c = true := t
          rw [List.filter_cons_of_neg e2, List.filter_nil, List.append_nil]
          exact ⟨acc, s3.trans s4, s4 _ _ hD3, Paired.mapP hacc fun _ _ z => z.keep (tk_of s4)⟩
      · rintro H3 ⟨acc, s3, hD3, hacc⟩
        rw [hrv.length, List.take_of_length_le (Nat.le_refl _), ← remA_snoc] at hacc
        have ane : acc.isEmpty = false := by
          cases acc with
          | nil =>
            cases e : remA S (obs.take i ++ [b]) with
            | nil => exact absurd e rne1
            | cons c r =>
              rw [e] at hacc
              cases hacc
          | cons => rfl
        refine ⟨_, rfl, true, .inl ⟨acc, SqL.of hD3, by rw [ane]; rfl⟩, iteF ?_⟩
        have hL3 := s3 _ _ hL2
        refine ⟨_, rfl, .inl ⟨rfl, _, SqL.of hL3⟩, _, rfl, _, rfl, _, rfl, (by show 3 ≤ sizeLine; decide), fun u' nu' => ?_⟩
        have su := same_upd (o := HO.tup [.int (b.1.1 : Nat), .int (b.1.2 : Nat), y]) nu'
        have nuL : u' ≠ L := (ne_of_none hL3 nu').symm
        have k6 : TupKeep H3 _ := (tk_of su).trans (TupKeep.lst (o := HO.lst (us' ++ [.ref u'])) (su _ _ hL3))
        have k7 : TupKeep H2 _ := (tk_of s3).trans k6
        refine ⟨L, _, _, rfl, rfl, su _ _ hL3, ?_, D, acc, _, _, _, _, rfl, fun q o e => ?_, ?_, Paired.mapP hacc fun _ _ z => z.keep k6, nDL.symm, upd_same, ?_⟩
        · rw [hus2.length, List.length_take]
          exact small1000 (by omega)
        · rw [upd_ne (ne_of_none e nL)]
          exact su _ _ (s3 _ _ (s2 _ _ e))
        · exact (upd_ne nDL.symm).trans (su _ _ hD3)
        · exact Paired.snoc (Paired.mapP hus2 fun _ _ z => z.keep k7) ⟨u', y, rfl, (upd_ne nuL).trans upd_same, OptStop.keep k7 hy2⟩
    · rintro σ H2 ⟨ri, rv, us', y4, y5, y6, rfl, s2, hri, hrv, nri, hL2, hus2⟩
      rw [hus.length, List.take_of_length_le (Nat.le_refl _)] at hrv hus2
      have hs2 := s2 _ _ h1
      have W2 := W0.same s2
      have nrs : ri ≠ s := ne_of hri hs2 (by intro z; cases z)
      have nLs : L ≠ s := ne_of hL2 hs2 (by intro z; cases z)
      have nas : S.a ≠ s := ne_of h10 h1 (by intro z; cases z)
      refine ⟨_, rfl, _, rfl, s, O, dx, _, rfl, hs2, T.cl, T.nR, (by show 4 < 1000; decide), ?_⟩
      rw [wt_rem]
      have hs3 : (upd H2 s (.ins O dx (WtFs S.x S.w ri S.a))) s = some (.ins O dx (WtFs S.x S.w ri S.a)) := upd_same
      have ha3 : (upd H2 s (.ins O dx (WtFs S.x S.w ri S.a))) S.a = some (.lst av0) := (upd_ne nas).trans (s2 _ _ h10)
      have hL3 : (upd H2 s (.ins O dx (WtFs S.x S.w ri S.a))) L = some (.lst us') := (upd_ne nLs).trans hL2
      have hr3 : (upd H2 s (.ins O dx (WtFs S.x S.w ri S.a))) ri = some (.lst rv) := (upd_ne nrs).trans hri
      have b3 : But s H2 (upd H2 s (.ins O dx (WtFs S.x S.w ri S.a))) := .upd
      generalize upd H2 s (.ins O dx (WtFs S.x S.w ri S.a)) = H3 at hs3 ha3 hL3 hr3 b3
      have sl : av0.length + us'.length ≤ sizeLine := by
        rw [h11.length, hus2.length]
        exact Nat.le_of_lt (small1000 (by omega))
      refine ⟨_, rfl, s, O, dx, _, _, rfl, hs3, T.cl, T.nA, wf_a, _, rfl, S.a, L, av0, us', rfl, rfl, ha3, hL3, sl, fun a na => ?_⟩
      have sa := same_upd (o := HO.lst (av0 ++ us')) na
      refine ⟨_, rfl, s, O, dx, _, rfl, sa _ _ hs3, T.cl, T.nA, (by show 4 < 1000; decide), ?_⟩
      rw [wt_acc]
      have n3 : a ≠ s := (ne_of_none hs3 na).symm
      have b5 : But s H (upd (upd H3 a (.lst (av0 ++ us'))) s (.ins O dx (WtFs S.x S.w ri a))) := (((But.of s2).trans b3).trans (.of sa)).trans .upd
      have tk := b5.tki h1
      have b6 : But s H2 (upd (upd H3 a (.lst (av0 ++ us'))) s (.ins O dx (WtFs S.x S.w ri a))) := (b3.trans (.of sa)).trans .upd
      have tk6 := b6.tki hs2
      have hr5 : (upd (upd H3 a (.lst (av0 ++ us'))) s (.ins O dx (WtFs S.x S.w ri a))) ri = some (.lst rv) := (upd_ne nrs).trans (sa _ _ hr3)
      have W5 : WatAt O C _ s (S.seen obs ri a) := W0.step b5 upd_same ⟨rv, hr5, Paired.mapP hrv fun _ _ z => z.keep tk6⟩ (fun c hc => (List.mem_filter.mp hc).1) ⟨av0 ++ us', (upd_ne n3).trans upd_same, Paired.app (Paired.mapP h11 fun _ _ z => z.keep tk) (Paired.mapP hus2 fun _ _ z => z.keep tk6)⟩
      have qq := q _ ri a b5 W5
      rw [← hrv.length] at qq
      exact ⟨_, rfl, ri, rv, rfl, .inl (SqL.of hr5), qq⟩
  · obtain ⟨s, S, obs, us, rfl, W0, hus, hob, rne, rl, al, q⟩ := h
    have ul : us.length ≤ sizeLine := by
      rw [hus.length]
      exact Nat.le_of_lt (small1000 (by omega))
    refine ⟨_, us, rfl, ul, fun p np => ?_⟩
    have sp := same_upd (o := HO.tup us) np
    exact ⟨s, p, S, obs, us, rfl, upd_same, W0.same sp, Paired.mapP hus fun _ _ z => z.keep (tk_of sp), hob, rne, rl, al, fun H' r a b => q H' r a ((But.of sp).trans b)⟩
def spWSee (O C : Addr) : Sp := fun vs H Q _ => ∃ (s : Addr) (S : WatS) (hs dy : Nat) (y : V) (r : Option (Nat × Nat)), vs = [.ref s, .int hs, .int dy, y] ∧ WatAt O C H s S ∧ OptStop H y r ∧ hs < S.h ∧ dy ≤ 1000000000000000000 ∧ (∀ c, r = some c → c.1 < S.h) ∧ remA S [((hs, dy), r)] ≠ [] ∧ S.rem.length ≤ 100 ∧ S.acc.length < 500 ∧
  ∀ H' r' a, But s H H' → WatAt O C H' s (S.seen [((hs, dy), r)] r' a) → Q (.int (remA S [((hs, dy), r)]).length) H'
theorem ok_w_see {f fA O C : Addr} {fd : FuncData} (F : Fun K "see" "Watcher.see" s_Watcher_see f fd) (T : WatT K O) (mA : Meth K O "see_all" fA) (GA : FnR P w K mg base CX0 5 fA (spWAll O C)) : FnOk P w K mg base CX0 6 f fd P_Watcher_see (spWSee O C) := by
  refine F.ok sc_Watcher_see (fun vs H Q E h => ?_) (fun cdv A outer s0 H vs Q E hr h => ?_)
  · obtain ⟨s, S, hs, dy, y, r, rfl, _⟩ := h
    rfl
  · obtain ⟨s, S, hs, dy, y, r, rfl, W0, hy, hh, hd, hc, rne, rl, al, q⟩ := h
    refine ⟨_, pss_one (ps_ret (pe_methR (pv 0) T.cl mA GA hr pass0 (pa_cons (pe_tup (pa_cons (pv 1) (pa_cons (pv 2) (pa_cons (pv 3) pa_nil)))) pa_nil))), ?_⟩
    obtain ⟨dx, h1⟩ := W0.ins
    refine ⟨_, rfl, s, dx, _, rfl, h1, wf_no (by decide +kernel) (by decide +kernel) (by decide +kernel) (by decide +kernel), _, rfl, _, rfl, _, rfl, (by show 3 ≤ sizeLine; decide), fun u nu => ?_⟩
    have su := same_upd (o := HO.tup [.int (hs : Nat), .int (dy : Nat), y]) nu
    refine ⟨s, S, [((hs, dy), r)], [.ref u], rfl, W0.same su, .cons ⟨u, y, rfl, upd_same, OptStop.keep (tk_of su) hy⟩ .nil, fun b hb => ?_, rne, rl, by show _ + 1 ≤ 500; omega, fun H' r' a b => q H' r' a ((But.of su).trans b)⟩
    rw [List.mem_singleton.mp hb]
    exact ⟨hh, hd, hc⟩
end
/-! ### observations as data -/
theorem shL {ds : List PyData} (h : ∀ d ∈ ds, d.canLay0 = true ∧ d.depth ≤ 63) : PySem.SeqAt.shaped (.list ds) = true := by
  have h1 : PyData.canLayAll0 ds = true := by
    induction ds with
    | nil => simp [PyData.canLayAll0]
    | cons d r ih => simp [PyData.canLayAll0, (h d (List.mem_cons_self ..)).1, ih fun x hx => h x (List.mem_cons_of_mem _ hx)]
  have h2 : PyData.depthAll ds ≤ 63 := by
    clear h1
    induction ds with
    | nil => simp [PyData.depthAll]
    | cons d r ih =>
      have a := (h d (List.mem_cons_self ..)).2
      have b := ih fun x hx => h x (List.mem_cons_of_mem _ hx)
      simp only [PyData.depthAll]
      omega
  show (PyData.canLay0 (.list ds) && decide (PyData.depth (.list ds) ≤ 64)) = true
  rw [Bool.and_eq_true]
  refine ⟨by simp only [PyData.canLay0]; exact h1, decide_eq_true ?_⟩
  simp only [PyData.depth]
  omega
def obD (b : Obs) : PyData := .tuple [.int b.1.1, .int b.1.2, optD b.2]
theorem ob_dp {K : PySem.W.Frag} {H : Hp} {vs : List V} {ks : List Obs} (h : Paired (ObsAt H) vs ks) : DpAll K H vs (ks.map obD) := by
  induction h with
  | nil => exact .nil
  | cons r _ ih =>
    obtain ⟨u, y, rfl, hu, hy⟩ := r
    exact .cons (.tup (SqT.of hu) (.cons (.int _) (.cons (.int _) (.cons (opt_dp hy) .nil)))) ih
theorem ob_good (ks : List Obs) : ∀ d ∈ ks.map obD, d.canLay0 = true ∧ d.depth ≤ 63 := by
  intro d hd
  obtain ⟨k, _, rfl⟩ := List.mem_map.mp hd
  cases e : k.2 with
  | none => exact ⟨by simp [obD, e, optD, PyData.canLay0, PyData.canLayAll0], by simp [obD, e, optD, PyData.depth, PyData.depthAll]⟩
  | some q => exact ⟨by simp [obD, e, optD, plD, PyData.canLay0, PyData.canLayAll0], by simp [obD, e, optD, plD, PyData.depth, PyData.depthAll]⟩
theorem ob_nil (ks : List Obs) : PyData.eqv (.list (ks.map obD)) (.list []) = decide (ks = []) := by
  cases ks with
  | nil => simp [PyData.eqv, PyData.eqvAll]
  | cons k r => simp [PyData.eqv, PyData.eqvAll]
theorem obD_eqv (a b : Obs) : PyData.eqv (obD a) (obD b) = decide (a = b) := by
  unfold obD
  rw [PyData.eqv, PySem.W.eqv_all_cons, PySem.W.eqv_all_cons, PySem.W.eqv_all_cons, int_eqv, int_eqv, optD_eqv]
  obtain ⟨⟨a1, a2⟩, a3⟩ := a
  obtain ⟨⟨b1, b2⟩, b3⟩ := b
  by_cases c1 : a1 = b1 <;> by_cases c2 : a2 = b2 <;> by_cases c3 : a3 = b3 <;> simp [c1, c2, c3, PyData.eqvAll] <;> omega
theorem obs_eqvA : ∀ a b : List Obs, PyData.eqvAll (a.map obD) (b.map obD) = decide (a = b)
  | [], [] => by simp [PyData.eqvAll]
  | [], _ :: _ => by simp [PyData.eqvAll]
  | _ :: _, [] => by simp [PyData.eqvAll]
  | x :: xs, y :: ys => by
    rw [List.map_cons, List.map_cons, PySem.W.eqv_all_cons, obD_eqv, obs_eqvA xs ys]
    by_cases c : x = y <;> by_cases d : xs = ys <;> simp [c, d]
theorem obs_eqv (a b : List Obs) : PyData.eqv (.list (a.map obD)) (.list (b.map obD)) = decide (a = b) := by
  rw [PyData.eqv]
  exact obs_eqvA a b
/-! ### k37's mathematics -/
structure Wp where
  p : Nat
  h : Nat
  os : List Od
  k : Nat
  o : Od
  F : List Addr
def Wp.res (Z : Wp) (hs dy : Nat) (c : Nat × Nat) : NK := dst Z.p Z.h (setO Z.os Z.k Z.o c) (hs, dy)
def Wp.ok (Z : Wp) (b : Obs) (c : Nat × Nat) : Bool := decide (Z.res b.1.1 b.1.2 c = b.2)
def Wp.rem (Z : Wp) (R : List (Nat × Nat)) (obs : List Obs) : List (Nat × Nat) := R.filter fun c => obs.all fun b => Z.ok b c
def WAt (O C : Addr) (H : Hp) (s : Addr) (Z : Wp) (R : List (Nat × Nat)) (A : List Obs) : Prop := ∃ S : WatS, WatAt O C H s S ∧ (⟨S.p, S.h, S.os, S.k, S.o, S.F⟩ : Wp) = Z ∧ S.rem = R ∧ S.acc = A
theorem rem_eq {S : WatS} {obs : List Obs} : remA S obs = Wp.rem ⟨S.p, S.h, S.os, S.k, S.o, S.F⟩ S.rem obs := rfl
theorem res_eq {S : WatS} {hs dy : Nat} : resL S hs dy = S.rem.map (Wp.res ⟨S.p, S.h, S.os, S.k, S.o, S.F⟩ hs dy) := rfl
theorem Wp.rem_rem {Z : Wp} {R : List (Nat × Nat)} {a b : List Obs} : Z.rem (Z.rem R a) b = Z.rem R (a ++ b) := by
  unfold Wp.rem
  rw [List.filter_filter]
  refine List.filter_congr fun c _ => ?_
  rw [List.all_append, Bool.and_comm]
theorem Wp.rem_perm {Z : Wp} {R : List (Nat × Nat)} {a b : List Obs} (h : a.Perm b) : Z.rem R a = Z.rem R b := by
  unfold Wp.rem
  refine List.filter_congr fun c _ => ?_
  rw [Bool.eq_iff_iff, List.all_eq_true, List.all_eq_true]
  exact ⟨fun q x hx => q x (h.mem_iff.mpr hx), fun q x hx => q x (h.mem_iff.mp hx)⟩
theorem Wp.rem_nil {Z : Wp} {R : List (Nat × Nat)} : Z.rem R [] = R := by
  unfold Wp.rem
  rw [List.filter_eq_self]
  exact fun _ _ => rfl
theorem Wp.rem_len {Z : Wp} {R : List (Nat × Nat)} {a : List Obs} : (Z.rem R a).length ≤ R.length := List.length_filter_le _ _
theorem set_self {os : List Od} {k : Nat} {o : Od} (h : os[k]? = some o) : setO os k o (o.t, o.e) = os := by
  have lt := (List.getElem?_eq_some_iff.mp h).1
  have e : os = os.take k ++ ([o] ++ os.drop (k + 1)) := by
    have e1 := (List.take_append_drop k os).symm
    rw [List.drop_eq_getElem_cons lt] at e1
    rw [← (List.getElem?_eq_some_iff.mp h).2]
    exact e1
  unfold setO
  rw [List.append_assoc]
  exact e.symm
/-- what the facts say is so -/
def Wp.true (Z : Wp) (b : Obs) : Prop := b.1.1 < Z.h ∧ b.1.2 ≤ 1000000000000000000 ∧ b.2 = dst Z.p Z.h Z.os b.1
theorem Wp.truth {Z : Wp} (ho : Z.os[Z.k]? = some Z.o) {R : List (Nat × Nat)} {obs : List Obs} (h : (Z.o.t, Z.o.e) ∈ R) (t : ∀ b ∈ obs, Z.true b) : (Z.o.t, Z.o.e) ∈ Z.rem R obs := by
  refine List.mem_filter.mpr ⟨h, ?_⟩
  rw [List.all_eq_true]
  intro b hb
  refine decide_eq_true ?_
  unfold Wp.res
  rw [set_self ho, (t b hb).2.2]
theorem truth_in {p h : Nat} {os : List Od} {k : Nat} {o : Od} (ok : NetOk p h os) (ho : os[k]? = some o) : (o.t, o.e) ∈ candsL h o.s := by
  obtain ⟨a1, a2, a3, a4, a5, a6, a7, a8⟩ := ok.ok o (List.mem_of_getElem? ho)
  unfold candsL rowC
  refine List.mem_flatMap.mpr ⟨o.t, List.mem_range.mpr a2, ?_⟩
  rw [if_neg (fun e => a3 e.symm)]
  exact List.mem_map.mpr ⟨o.e - 1, List.mem_range.mpr (by omega), by rw [show o.e - 1 + 1 = o.e by omega]⟩
theorem nd_len {α : Type} [DecidableEq α] : ∀ {l m : List α}, l.Nodup → (∀ x ∈ l, x ∈ m) → l.length ≤ m.length
  | [], _, _, _ => Nat.zero_le _
  | x :: l, m, nd, h => by
    have hx := h x List.mem_cons_self
    obtain ⟨n1, n2⟩ := List.nodup_cons.mp nd
    have ih := nd_len (m := m.erase x) n2 fun y hy => (List.mem_erase_of_ne (a := y) (b := x) (by intro e; rw [e] at hy; exact n1 hy)).mpr (h y (List.mem_cons_of_mem _ hy))
    rw [List.length_erase_of_mem hx] at ih
    have := List.length_pos_of_mem hx
    rw [List.length_cons]
    omega
theorem few_left {α β : Type} [DecidableEq β] {xs : List α} {f : α → β} {l : List β} {r : β} (nd : l.Nodup) (h : ∀ k ∈ l, k ∈ xs.map f) (hr : r ∈ l) : (xs.filter fun x => decide (f x = r)).length + l.length ≤ xs.length + 1 := by
  have e : xs.length = (xs.filter fun x => decide (f x = r)).length + (xs.filter fun x => !decide (f x = r)).length := by
    clear h
    induction xs with
    | nil => rfl
    | cons x t ih =>
      by_cases c : f x = r
      · rw [List.filter_cons_of_pos (by simp [c]), List.filter_cons_of_neg (by simp [c]), List.length_cons, List.length_cons]
        omega
      · rw [List.filter_cons_of_neg (by simp [c]), List.filter_cons_of_pos (by simp [c]), List.length_cons, List.length_cons]
        omega
  have i := nd_len (l := l.erase r) (m := (xs.filter fun x => !decide (f x = r)).map f) (nd.erase r) fun k hk => by
    obtain ⟨n1, n2⟩ := (nd.mem_erase_iff).mp hk
    obtain ⟨x, hx, e⟩ := List.mem_map.mp (h k n2)
    exact List.mem_map.mpr ⟨x, List.mem_filter.mpr ⟨hx, by simp [e, n1]⟩, e⟩
  rw [List.length_map, List.length_erase_of_mem hr] at i
  have := List.length_pos_of_mem hr
  omega
theorem ResOk.nd {l res : List NK} (r : ResOk l res) : l.Nodup := by
  obtain ⟨ds, rfl, p, _⟩ := r.ex
  have nd : ds.Nodup := p.imp fun {a b} q e => by
    rw [e] at q
    exact absurd q (by rw [ltS_no.mpr (by omega)]; exact Bool.false_ne_true)
  have nm : (ds.map some).Nodup := List.Pairwise.map some (fun a b n e => n (Option.some.inj e)) nd
  split
  · refine List.nodup_cons.mpr ⟨fun z => ?_, nm⟩
    obtain ⟨_, _, e⟩ := List.mem_map.mp z
    cases e
  · exact nm
theorem ResOk.one {l res : List NK} {r : NK} (q : ResOk l res) (h : ∀ k, k ∈ res ↔ k = r) : l = [r] := by
  have m : ∀ k, k ∈ l ↔ k = r := fun k => (q.mem k).trans (h k)
  have nd := q.nd
  match l, nd, m with
  | [], _, m => exact absurd ((m r).mpr rfl) (by simp)
  | [x], _, m => rw [(m x).mp (by simp)]
  | x :: y :: t, nd, m =>
    have e1 := (m x).mp (by simp)
    have e2 := (m y).mp (by simp)
    rw [e1, e2] at nd
    simp at nd
theorem rev_sorted {l l' : List Int} (h : l.Pairwise (fun a b => b ≤ a)) (p : l'.Perm l) (s : l'.Pairwise (· ≤ ·)) : l'.reverse = l := by
  have p2 : l'.reverse.Perm l := (List.reverse_perm l').trans p
  refine List.Perm.eq_of_pairwise (le := fun a b => b ≤ a) (fun a b _ _ h1 h2 => by omega) ?_ h p2
  rw [List.pairwise_reverse]
  exact s
/-! ### what the law asks of a watcher -/
theorem WAt.same {O C : Addr} {H H' : Hp} {s : Addr} {Z : Wp} {R : List (Nat × Nat)} {A : List Obs} (W : WAt O C H s Z R A) (e : Same H H') : WAt O C H' s Z R A := by
  obtain ⟨S, h, a, b, c⟩ := W
  exact ⟨S, h.same e, a, b, c⟩
theorem WAt.other {O C : Addr} {H H' : Hp} {s s' : Addr} {Z Z' : Wp} {R R' : List (Nat × Nat)} {A A' : List Obs} (W : WAt O C H s Z R A) (e : But s' H H') (n : s ≠ s') (W' : WAt O C H s' Z' R' A') : WAt O C H' s Z R A := by
  obtain ⟨S, h, a, b, c⟩ := W
  obtain ⟨S', h', _⟩ := W'
  exact ⟨S, h.other e n h', a, b, c⟩
theorem WAt.ins {O C : Addr} {H : Hp} {s : Addr} {Z : Wp} {R : List (Nat × Nat)} {A : List Obs} (W : WAt O C H s Z R A) : ∃ dx a b c d, H s = some (.ins O dx (WtFs a b c d)) := by
  obtain ⟨S, h, _⟩ := W
  obtain ⟨dx, h1⟩ := h.ins
  exact ⟨dx, _, _, _, _, h1⟩
theorem WAt.tk {O C : Addr} {H H' : Hp} {s : Addr} {Z : Wp} {R : List (Nat × Nat)} {A : List Obs} (W : WAt O C H s Z R A) (e : But s H H') : TupKeep H H' := by
  obtain ⟨dx, a, b, c, d, h⟩ := W.ins
  exact e.tki h
theorem dl_ne {H : Hp} {d r : Addr} {vs : List V} {R : V → Prop} (D : DAt H d) (h : H r = some (.lst vs)) (hv : ∀ v ∈ vs, ∃ u, v = .ref u) : r ≠ d := fun z => by
  obtain ⟨s, c, l, _, _, hd⟩ := D
  rw [← z, h] at hd
  have e := HO.lst.inj (Option.some.inj hd)
  have m : V.int (s : Nat) ∈ vs := by
    rw [e]
    exact List.mem_cons_self ..
  obtain ⟨u, e⟩ := hv _ m
  cases e
theorem paired_all {α : Type} {F : V → α → Prop} (hF : ∀ v a, F v a → ∃ u, v = .ref u) : ∀ {vs : List V} {l : List α}, Paired F vs l → ∀ v ∈ vs, ∃ u, v = .ref u
  | _, _, .nil, v, h => by cases h
  | _, _, .cons r t, v, h => by
    rcases List.mem_cons.mp h with z | z
    · rw [z]
      exact hF _ _ r
    · exact paired_all hF t v z
/-- a list changes that the watcher doesn't hold -/
theorem WatAt.butL {O C d : Addr} {H H' : Hp} {s : Addr} {S : WatS} {ds : List V} (h : WatAt O C H s S) (e : But d H H') (hd : H d = some (.lst ds)) (n1 : d ∉ S.F) (n2 : S.r ≠ d) (n3 : S.a ≠ d) : WatAt O C H' s S := by
  have tk : TupKeep H H' := fun c xs q => e c _ (ne_of q hd (by intro z; cases z)) q
  obtain ⟨dx, h1⟩ := h.ins
  obtain ⟨rv, h7, h8⟩ := h.rem
  obtain ⟨av, h10, h11⟩ := h.acc
  have ns : s ≠ d := ne_of h1 hd (by intro z; cases z)
  have nt : ∀ {b : Addr} {kvs : List (List Key × V)}, H b = some (.dT kvs) → b ≠ d := fun hb => ne_of hb hd (by intro z; cases z)
  exact ⟨⟨dx, e _ _ ns h1⟩, h.net.but e tk n1, h.ok, h.ord, ⟨e _ _ (nt h.ways.tab) h.ways.tab, h.ways.ne, fun c hc => by
    obtain ⟨ks, f, a, q⟩ := h.ways.ways c hc
    exact ⟨ks, f, ⟨e _ _ (nt a.tab) a.tab, a.nd, a.ok, fun q hq => (a.ways q hq).keep tk⟩, q⟩⟩, h.all, ⟨rv, e _ _ n2 h7, Paired.mapP h8 fun _ _ z => z.keep tk⟩, h.sub, ⟨av, e _ _ n3 h10, Paired.mapP h11 fun _ _ z => z.keep tk⟩⟩
theorem ints_ne {H : Hp} {d r : Addr} {vs : List V} {l : List Nat} (D : H d = some (.lst (nints l))) (h : H r = some (.lst vs)) (ne : vs ≠ []) (hv : ∀ v ∈ vs, ∃ u, v = .ref u) : r ≠ d := fun z => by
  rw [← z, h] at D
  have e := HO.lst.inj (Option.some.inj D)
  cases l with
  | nil => exact ne e
  | cons x t =>
    obtain ⟨u, q⟩ := hv (V.int (x : Nat)) (by rw [e]; exact List.mem_cons_self ..)
    cases q
theorem WAt.ints {O C d : Addr} {H H' : Hp} {s : Addr} {Z : Wp} {R : List (Nat × Nat)} {A : List Obs} {l : List Nat} (W : WAt O C H s Z R A) (e : But d H H') (hd : H d = some (.lst (nints l))) (hF : d ∉ Z.F) (hR : R ≠ []) (hA : A ≠ []) : WAt O C H' s Z R A := by
  obtain ⟨S, h, rfl, rfl, rfl⟩ := W
  obtain ⟨rv, h7, h8⟩ := h.rem
  obtain ⟨av, h10, h11⟩ := h.acc
  have m1 : rv ≠ [] := fun z => by
    rw [z] at h8
    have := h8.length
    cases q : S.rem with
    | nil => exact hR q
    | cons => rw [q] at this; cases this
  have m2 : av ≠ [] := fun z => by
    rw [z] at h11
    have := h11.length
    cases q : S.acc with
    | nil => exact hA q
    | cons => rw [q] at this; cases this
  exact ⟨S, h.butL e hd hF (ints_ne hd h7 m1 (paired_all (fun v a z => by obtain ⟨u, e, _⟩ := z; exact ⟨u, e⟩) h8)) (ints_ne hd h10 m2 (paired_all (fun v a z => by obtain ⟨u, _, e, _⟩ := z; exact ⟨u, e⟩) h11)), rfl, rfl, rfl⟩
/-- the law's w changes -/
theorem WAt.but {O C d : Addr} {H H' : Hp} {s : Addr} {Z : Wp} {R : List (Nat × Nat)} {A : List Obs} (W : WAt O C H s Z R A) (e : But d H H') (D : DAt H d) (hF : d ∉ Z.F) : WAt O C H' s Z R A := by
  obtain ⟨S, h, rfl, b, c⟩ := W
  have n1 : d ∉ S.F := hF
  have tk := e.tk D
  obtain ⟨dx, h1⟩ := h.ins
  obtain ⟨rv, h7, h8⟩ := h.rem
  obtain ⟨av, h10, h11⟩ := h.acc
  have n2 : S.r ≠ d := dl_ne (R := fun _ => True) D h7 (paired_all (fun v a z => by obtain ⟨u, e, _⟩ := z; exact ⟨u, e⟩) h8)
  have n3 : S.a ≠ d := dl_ne (R := fun _ => True) D h10 (paired_all (fun v a z => by obtain ⟨u, _, e, _⟩ := z; exact ⟨u, e⟩) h11)
  have ns : s ≠ d := fun z => by
    obtain ⟨_, _, _, _, _, hd⟩ := D
    rw [← z, h1] at hd
    cases hd
  have nt : ∀ {b : Addr} {kvs : List (List Key × V)}, H b = some (.dT kvs) → b ≠ d := fun {b kvs} hb z => by
    obtain ⟨_, _, _, _, _, hd⟩ := D
    rw [← z, hb] at hd
    cases hd
  exact ⟨S, ⟨⟨dx, e _ _ ns h1⟩, h.net.but e tk n1, h.ok, h.ord, ⟨e _ _ (nt h.ways.tab) h.ways.tab, h.ways.ne, fun c hc => by
    obtain ⟨ks, f, a, q⟩ := h.ways.ways c hc
    exact ⟨ks, f, ⟨e _ _ (nt a.tab) a.tab, a.nd, a.ok, fun q hq => (a.ways q hq).keep tk⟩, q⟩⟩, h.all, ⟨rv, e _ _ n2 h7, Paired.mapP h8 fun _ _ z => z.keep tk⟩, h.sub, ⟨av, e _ _ n3 h10, Paired.mapP h11 fun _ _ z => z.keep tk⟩⟩, rfl, b, c⟩
section
variable {O C s : Addr} {H : Hp} {Z : Wp} {R : List (Nat × Nat)} {A : List Obs} {Q : VK} {E : XK}
theorem use_see {y : V} {r : NK} {hs dy : Nat} (W : WAt O C H s Z R A) (hy : OptStop H y r) (h1 : hs < Z.h) (h2 : dy ≤ 1000000000000000000) (h3 : ∀ c, r = some c → c.1 < Z.h) (h4 : Z.rem R [((hs, dy), r)] ≠ []) (h5 : R.length ≤ 100) (h6 : A.length < 500)
    (q : ∀ H', But s H H' → WAt O C H' s Z (Z.rem R [((hs, dy), r)]) (A ++ [((hs, dy), r)]) → Q (.int (Z.rem R [((hs, dy), r)]).length) H') : spWSee O C [.ref s, .int hs, .int dy, y] H Q E := by
  obtain ⟨S, W, rfl, rfl, rfl⟩ := W
  exact ⟨s, S, hs, dy, y, r, rfl, W, hy, h1, h2, h3, h4, h5, h6, fun H' r' a b W' => q H' b ⟨_, W', rfl, rfl, rfl⟩⟩
theorem use_all {obs : List Obs} {us : List V} (W : WAt O C H s Z R A) (hy : Paired (ObsAt H) us obs) (h1 : ∀ b ∈ obs, b.1.1 < Z.h ∧ b.1.2 ≤ 1000000000000000000 ∧ ∀ c, b.2 = some c → c.1 < Z.h) (h4 : Z.rem R obs ≠ []) (h5 : R.length ≤ 100) (h6 : A.length + obs.length ≤ 500)
    (q : ∀ H', But s H H' → WAt O C H' s Z (Z.rem R obs) (A ++ obs) → Q (.int (Z.rem R obs).length) H') : spWAll O C (.ref s :: us) H Q E := by
  obtain ⟨S, W, rfl, rfl, rfl⟩ := W
  exact ⟨s, S, obs, us, rfl, W, hy, h1, h4, h5, h6, fun H' r' a b W' => q H' b ⟨_, W', rfl, rfl, rfl⟩⟩
theorem use_cands (W : WAt O C H s Z R A) (q : ∀ H' r vs', Same H H' → H r = none → H' r = some (.lst vs') → Paired (StopAt H') vs' R → Q (.ref r) H') : spWCands O C [.ref s] H Q E := by
  obtain ⟨S, W, rfl, rfl, rfl⟩ := W
  exact ⟨s, S, rfl, W, q⟩
theorem use_hist (W : WAt O C H s Z R A) (q : ∀ H' r vs', Same H H' → H r = none → H' r = some (.lst vs') → Paired (ObsAt H') vs' A → Q (.ref r) H') : spWHist O C [.ref s] H Q E := by
  obtain ⟨S, W, rfl, rfl, rfl⟩ := W
  exact ⟨s, S, rfl, W, q⟩
theorem use_ress {hs dy : Nat} (W : WAt O C H s Z R A) (h5 : R.length ≤ 100) (h1 : hs < Z.h) (h2 : dy ≤ 1000000000000000000)
    (q : ∀ H' r ws l, Same H H' → H r = none → H' r = some (.lst ws) → Paired (OptStop H') ws l → ResOk l (R.map (Z.res hs dy)) → l.length ≤ 101 → Q (.ref r) H') : spWRess O C [.ref s, .int hs, .int dy] H Q E := by
  obtain ⟨S, W, rfl, rfl, rfl⟩ := W
  exact ⟨s, S, hs, dy, rfl, W, h5, h1, h2, q⟩
theorem use_best {f : Nat} (W : WAt O C H s Z R A) (h4 : R ≠ []) (h5 : R.length ≤ 100) (h1 : f ≤ 1000000000000)
    (q : ∀ (H' : Hp) (r : Addr) (hs dy : Nat), Same H H' → H r = none → H' r = some (.tup [.int hs, .int dy]) → hs < Z.h → f ≤ dy → dy < f + Z.p → Q (.ref r) H') : spWBest O C [.ref s, .int f] H Q E := by
  obtain ⟨S, W, rfl, rfl, rfl⟩ := W
  exact ⟨s, S, f, rfl, W, h4, h5, h1, fun H' r hs dy s1 n hr b => q H' r hs dy s1 n hr b.hh b.lo b.hi⟩
end
theorem NetAt.wat {O C : Addr} {H H' : Hp} {s x t : Addr} {p h : Nat} {os : List Od} {F : List Addr} {Z : Wp} {R : List (Nat × Nat)} {A : List Obs} (N : NetAt C H x p h os t F) (b : But s H H') (W : WAt O C H s Z R A) : NetAt C H' x p h os t F := by
  obtain ⟨dx, _, _, _, _, h1⟩ := W.ins
  exact N.but b (b.tki h1) (wat_net (H' := s) N h1)
theorem nil_of {σ : L2.St} {H : Hp} {k : List V → Hp → Prop} (h : k [] H) : tNil σ H k := h
theorem len4 {α : Type} : ∀ {l : List α}, l.length = 4 → ∃ a b c d, l = [a, b, c, d]
  | [a, b, c, d], _ => ⟨a, b, c, d, rfl⟩
def Wp.lens (Z : Wp) (R : List (Nat × Nat)) (fs : List Obs) (n : Nat) : List Nat := (List.range n).map fun j => (Z.rem R (fs.take (j + 1))).length
theorem WAt.ne {O C b : Addr} {H : Hp} {s : Addr} {Z : Wp} {R : List (Nat × Nat)} {A : List Obs} {vs : List V} (W : WAt O C H s Z R A) (h : H b = some (.lst vs)) : b ≠ s := by
  obtain ⟨_, _, _, _, _, hi⟩ := W.ins
  exact ne_of h hi (by intro z; cases z)
theorem nself {x : V} : (!decide (x = x)) = false := by rw [decide_eq_true rfl]; rfl
theorem eqv_self {d : PyData} (h : PySem.SeqAt.shaped d = true) : (!PyData.eqv d d) = false := by rw [PySem.SeqAt.eqv_refl _ (PySem.SeqAt.canLay_of_shaped h)]; rfl
theorem op_any (l : List NK) (s : NK) : ((l.map optD).any fun z => PyData.eqv z (optD s)) = decide (s ∈ l) := by
  rw [List.any_map, Bool.eq_iff_iff, List.any_eq_true, decide_eq_true_iff]
  constructor
  · rintro ⟨x, hx, e⟩
    have e' : PyData.eqv (optD x) (optD s) = true := e
    rw [optD_eqv, decide_eq_true_iff] at e'
    rw [← e']
    exact hx
  · intro h
    refine ⟨s, h, ?_⟩
    show PyData.eqv (optD s) (optD s) = true
    rw [optD_eqv, decide_eq_true_iff]
theorem ops_dp {K : PySem.W.Frag} {H : Hp} {vs : List V} {l : List NK} (h : Paired (OptStop H) vs l) : DpAll K H vs (l.map optD) := by
  induction h with
  | nil => exact .nil
  | cons r _ ih => exact .cons (opt_dp r) ih
theorem ops_good (l : List NK) : ∀ d ∈ l.map optD, d.canLay0 = true ∧ d.depth ≤ 63 := by
  intro d hd
  obtain ⟨k, _, rfl⟩ := List.mem_map.mp hd
  cases k with
  | none => exact ⟨by simp [optD, PyData.canLay0], by simp [optD, PyData.depth]⟩
  | some q => exact ⟨by simp [optD, plD, PyData.canLay0, PyData.canLayAll0], by simp [optD, plD, PyData.depth, PyData.depthAll]⟩
theorem ni_at {l : List Nat} {k n : Nat} (h : l[k]? = some n) : (nints l)[k]? = some (.int n) := by
  unfold nints
  rw [List.getElem?_map, h]
  rfl
theorem lens_desc {Z : Wp} {R : List (Nat × Nat)} {fs : List Obs} {n : Nat} : ((Z.lens R fs n).map fun (n : Nat) => (n : Int)).Pairwise (fun a b => b ≤ a) := by
  unfold Wp.lens
  rw [List.map_map, List.pairwise_map]
  refine List.pairwise_lt_range.imp fun {a b} h => ?_
  show ((Z.rem R (fs.take (b + 1))).length : Int) ≤ ((Z.rem R (fs.take (a + 1))).length : Int)
  have e : fs.take (b + 1) = fs.take (a + 1) ++ (fs.take (b + 1)).drop (a + 1) := by
    have e1 := (List.take_append_drop (a + 1) (fs.take (b + 1))).symm
    rw [List.take_take, show min (a + 1) (b + 1) = a + 1 by omega] at e1
    exact e1
  rw [e, ← Wp.rem_rem]
  exact Int.ofNat_le.mpr Wp.rem_len
theorem Wp.res_truth {Z : Wp} (ho : Z.os[Z.k]? = some Z.o) {hs dy : Nat} : Z.res hs dy (Z.o.t, Z.o.e) = dst Z.p Z.h Z.os (hs, dy) := by
  unfold Wp.res
  rw [set_self ho]
/-! ### orders as data -/
def odD (o : Od) : PyData := .tuple [.int o.s, .int o.t, .int o.f, .int o.n, .int o.e]
theorem od_dp {K : PySem.W.Frag} {H : Hp} {v : V} {o : Od} (h : OrdAt H v o) : Dp K H v (odD o) := by
  obtain ⟨u, rfl, hu⟩ := h
  exact .tup (SqT.of hu) (.cons (.int _) (.cons (.int _) (.cons (.int _) (.cons (.int _) (.cons (.int _) .nil)))))
theorem ints_flat (l : List Nat) : (nints l).all flatV = true := by
  unfold nints
  rw [List.all_eq_true]
  intro v hv
  obtain ⟨n, _, rfl⟩ := List.mem_map.mp hv
  rfl
theorem inV_ints {d : Nat} (l : List Nat) : inV (.int (d : Nat)) (nints l) = decide (d ∈ l) := by
  unfold inV nints
  induction l with
  | nil => rfl
  | cons n r ih =>
    rw [List.map_cons, List.any_cons, ih]
    have e : eqV (V.int (n : Int)) (V.int (d : Int)) = decide ((n : Int) = (d : Int)) := rfl
    rw [e]
    by_cases h1 : n = d
    · subst h1
      simp
    · rw [decide_eq_false (show ¬ (n : Int) = (d : Int) by omega), Bool.false_or]
      by_cases h2 : d ∈ r
      · rw [decide_eq_true h2, decide_eq_true (List.mem_cons_of_mem _ h2)]
      · rw [decide_eq_false h2, decide_eq_false fun z => (List.mem_cons.mp z).elim (fun y => h1 y.symm) h2]
theorem ods_dp {K : PySem.W.Frag} {H : Hp} {vs : List V} {l : List Od} (h : Paired (OrdAt H) vs l) : DpAll K H vs (l.map odD) := by
  induction h with
  | nil => exact .nil
  | cons r _ ih => exact .cons (od_dp r) ih
theorem ods_depth : ∀ l : List Od, PyData.depthAll (l.map odD) ≤ 1
  | [] => by simp [PyData.depthAll]
  | s :: l => by
    have h1 := ods_depth l
    have h2 : (odD s).depth = 1 := by simp [odD, PyData.depth, PyData.depthAll]
    simp only [List.map_cons, PyData.depthAll]
    omega
theorem ods_lay : ∀ l : List Od, PyData.canLayAll0 (l.map odD) = true
  | [] => by simp [PyData.canLayAll0]
  | s :: l => by
    have h : (odD s).canLay0 = true := by simp [odD, PyData.canLay0, PyData.canLayAll0]
    simp [PyData.canLayAll0, h, ods_lay l]
theorem ods_shaped (l : List Od) : PySem.SeqAt.shaped (.tuple (l.map odD)) = true := by
  have h1 := ods_depth l
  show (PyData.canLay0 (.tuple (l.map odD)) && decide (PyData.depth (.tuple (l.map odD)) ≤ 64)) = true
  rw [Bool.and_eq_true]
  refine ⟨by simp only [PyData.canLay0]; exact ods_lay l, decide_eq_true ?_⟩
  simp only [PyData.depth]
  omega
theorem od_shaped (o : Od) : PySem.SeqAt.shaped (odD o) = true := by
  show ((odD o).canLay0 && decide ((odD o).depth ≤ 64)) = true
  rw [Bool.and_eq_true]
  refine ⟨by simp [odD, PyData.canLay0, PyData.canLayAll0], decide_eq_true ?_⟩
  have h2 : (odD o).depth = 1 := by simp [odD, PyData.depth, PyData.depthAll]
  omega
theorem od_self (o : Od) : PyData.eqv (odD o) (odD o) = true := PySem.SeqAt.eqv_refl _ (PySem.SeqAt.canLay_of_shaped (od_shaped o))
/-! ### what a value stands for: nested lists and tuples; changes of some lists -/
inductive Dt where
  | flat (v : V)
  | tup (l : List Dt)
  | lst (l : List Dt)
def Vd (ok : Addr → Prop) : Nat → Hp → V → Dt → Prop
  | 0, _, v, d => d = .flat v ∧ Flat1 v
  | n + 1, H, v, d => (d = .flat v ∧ Flat1 v) ∨ (∃ p xs ds, v = .ref p ∧ d = .tup ds ∧ H p = some (.tup xs) ∧ xs.length ≤ 1000 ∧ Paired (Vd ok n H) xs ds) ∨
      ∃ p xs ds, v = .ref p ∧ d = .lst ds ∧ ok p ∧ H p = some (.lst xs) ∧ xs.length ≤ 1000 ∧ Paired (Vd ok n H) xs ds
/-- all is kept but the lists that are not ok -/
def Upto (ok : Addr → Prop) (H H' : Hp) : Prop := ∀ a o, H a = some o → ((∃ xs, o = .lst xs) → ok a) → H' a = some o
section
variable {ok ok' : Addr → Prop} {H H' H'' : Hp}
theorem Upto.of (s : Same H H') : Upto ok H H' := fun a o e _ => s a o e
theorem Upto.trans (a : Upto ok H H') (b : Upto ok H' H'') : Upto ok H H'' := fun x o e k => b x o (a x o e k) k
theorem Upto.tk (u : Upto ok H H') : TupKeep H H' := fun a xs e => u a _ e fun ⟨_, z⟩ => by cases z
theorem Upto.lst (u : Upto ok H H') {a : Addr} {xs : List V} (e : H a = some (.lst xs)) (k : ok a) : H' a = some (.lst xs) := u a _ e fun _ => k
theorem Upto.mono (u : Upto ok H H') (f : ∀ a, ok' a → ok a) : Upto ok' H H' := fun a o e k => u a o e fun z => f a (k z)
theorem Upto.upd {a : Addr} {xs : List V} {o : HO} (e : H a = some (.lst xs)) (n : ¬ ok a) : Upto ok H (L2.upd H a o) := fun b o' e' k => by
  by_cases z : b = a
  · subst z
    exact absurd (k ⟨xs, Option.some.inj (e'.symm.trans e)⟩) n
  · exact (upd_ne z).trans e'
theorem Vd.keep : ∀ {n : Nat} {v : V} {d : Dt}, Upto ok H H' → Vd ok n H v d → Vd ok n H' v d
  | 0, _, _, _, h => h
  | n + 1, _, _, u, h => by
    rcases h with h | ⟨p, xs, ds, e1, e2, h1, h2, h3⟩ | ⟨p, xs, ds, e1, e2, k, h1, h2, h3⟩
    · exact .inl h
    · exact .inr (.inl ⟨p, xs, ds, e1, e2, u.tk _ _ h1, h2, Paired.mapP h3 fun _ _ z => Vd.keep u z⟩)
    · exact .inr (.inr ⟨p, xs, ds, e1, e2, k, u.lst h1 k, h2, Paired.mapP h3 fun _ _ z => Vd.keep u z⟩)
theorem Vd.mono : ∀ {n : Nat} {v : V} {d : Dt}, (∀ a xs, ok a → H a = some (.lst xs) → ok' a) → Vd ok n H v d → Vd ok' n H v d
  | 0, _, _, _, h => h
  | n + 1, _, _, f, h => by
    rcases h with h | ⟨p, xs, ds, e1, e2, h1, h2, h3⟩ | ⟨p, xs, ds, e1, e2, k, h1, h2, h3⟩
    · exact .inl h
    · exact .inr (.inl ⟨p, xs, ds, e1, e2, h1, h2, Paired.mapP h3 fun _ _ z => Vd.mono f z⟩)
    · exact .inr (.inr ⟨p, xs, ds, e1, e2, f _ _ k h1, h1, h2, Paired.mapP h3 fun _ _ z => Vd.mono f z⟩)
theorem Vd.up : ∀ {n : Nat} {v : V} {d : Dt}, Vd ok n H v d → Vd ok (n + 1) H v d
  | 0, _, _, h => .inl h
  | n + 1, _, _, h => by
    rcases h with h | ⟨p, xs, ds, e1, e2, h1, h2, h3⟩ | ⟨p, xs, ds, e1, e2, k, h1, h2, h3⟩
    · exact .inl h
    · exact .inr (.inl ⟨p, xs, ds, e1, e2, h1, h2, Paired.mapP h3 fun _ _ z => Vd.up z⟩)
    · exact .inr (.inr ⟨p, xs, ds, e1, e2, k, h1, h2, Paired.mapP h3 fun _ _ z => Vd.up z⟩)
theorem pair_two {α β γ : Type} {F : α → γ → Prop} {G : β → γ → Prop} {R : α → β → Prop} (f : ∀ a b c, F a c → G b c → R a b) : ∀ {xs : List α} {ys : List β} {zs : List γ}, Paired F xs zs → Paired G ys zs → Paired R xs ys
  | _, _, _, .nil, .nil => .nil
  | _, _, _, .cons a t, .cons b u => .cons (f _ _ _ a b) (pair_two f t u)
theorem Vd.eqv : ∀ {n : Nat} {v v' : V} {d : Dt}, Vd ok n H v d → Vd ok' n H v' d → Eqv n H v v'
  | 0, _, _, _, ⟨e, f⟩, ⟨e', _⟩ => by
    cases e
    cases e'
    exact ⟨rfl, f⟩
  | n + 1, _, _, _, h, h' => by
    rcases h with ⟨rfl, f⟩ | ⟨p, xs, ds, rfl, rfl, h1, h2, h3⟩ | ⟨p, xs, ds, rfl, rfl, k, h1, h2, h3⟩
    · rcases h' with ⟨e, _⟩ | ⟨_, _, _, _, e, _⟩ | ⟨_, _, _, _, e, _⟩ <;> cases e
      exact .inl ⟨rfl, f⟩
    · rcases h' with ⟨e, _⟩ | ⟨p', xs', ds', rfl, e, g1, g2, g3⟩ | ⟨_, _, _, _, e, _⟩ <;> cases e
      exact .inr (.inl ⟨p, p', xs, xs', rfl, rfl, h1, g1, h2, pair_two (F := Vd ok n H) (G := Vd ok' n H) (R := Eqv n H) (fun _ _ _ a b => Vd.eqv a b) h3 g3⟩)
    · rcases h' with ⟨e, _⟩ | ⟨_, _, _, _, e, _⟩ | ⟨p', xs', ds', rfl, e, k', g1, g2, g3⟩ <;> cases e
      exact .inr (.inr ⟨p, p', xs, xs', rfl, rfl, h1, g1, h2, pair_two (F := Vd ok n H) (G := Vd ok' n H) (R := Eqv n H) (fun _ _ _ a b => Vd.eqv a b) h3 g3⟩)
def stopDt (s : Nat × Nat) : Dt := .tup [.flat (.int s.1), .flat (.int s.2)]
def natDt (n : Nat) : Dt := .flat (.int n)
theorem vd_int {n : Nat} {i : Int} : Vd ok n H (.int i) (.flat (.int i)) := by
  cases n with
  | zero => exact ⟨rfl, .inr (.inr (.inl ⟨i, rfl⟩))⟩
  | succ n => exact .inl ⟨rfl, .inr (.inr (.inl ⟨i, rfl⟩))⟩
theorem vd_stop {v : V} {s : Nat × Nat} (h : StopAt H v s) : Vd ok 1 H v (stopDt s) := by
  obtain ⟨u, rfl, hu⟩ := h
  exact .inr (.inl ⟨u, _, _, rfl, rfl, hu, by show 2 ≤ 1000; decide, .cons vd_int (.cons vd_int .nil)⟩)
theorem vd_stops : ∀ {vs : List V} {l : List (Nat × Nat)}, Paired (StopAt H) vs l → Paired (Vd ok 1 H) vs (l.map stopDt)
  | _, _, .nil => .nil
  | _, _, .cons a t => .cons (vd_stop a) (vd_stops t)
theorem vd_nats : ∀ (l : List Nat), Paired (Vd ok 2 H) (nints l) (l.map natDt)
  | [] => .nil
  | _ :: l => .cons vd_int (vd_nats l)
theorem pair_up {vs : List V} {ds : List Dt} {n : Nat} (h : Paired (Vd ok n H) vs ds) : Paired (Vd ok (n + 1) H) vs ds := Paired.mapP h fun _ _ z => Vd.up z
/-- a value of a list of results: a list among T, or no list -/
def Tp (T inn : Addr → Prop) (H : Hp) (v : V) (d : Dt) : Prop := (∃ a xs ds, v = .ref a ∧ T a ∧ d = .lst ds ∧ H a = some (.lst xs) ∧ xs.length ≤ 1000 ∧ Paired (Vd inn 2 H) xs ds) ∨ (d = .flat v ∧ Flat1 v) ∨
  ∃ a xs ds, v = .ref a ∧ d = .tup ds ∧ H a = some (.tup xs) ∧ xs.length ≤ 1000 ∧ Paired (Vd inn 2 H) xs ds
theorem Tp.keep {T inn : Addr → Prop} {v : V} {d : Dt} (h : Tp T inn H v d) (u : Upto (fun a => T a ∨ inn a) H H') : Tp T inn H' v d := by
  rcases h with ⟨a, xs, ds, e1, k, e2, h1, h2, h3⟩ | h | ⟨a, xs, ds, e1, e2, h1, h2, h3⟩
  · exact .inl ⟨a, xs, ds, e1, k, e2, u.lst h1 (.inl k), h2, Paired.mapP h3 fun _ _ z => Vd.keep (u.mono fun _ => .inr) z⟩
  · exact .inr (.inl h)
  · exact .inr (.inr ⟨a, xs, ds, e1, e2, u.tk _ _ h1, h2, Paired.mapP h3 fun _ _ z => Vd.keep (u.mono fun _ => .inr) z⟩)
/-- for a comparison alone -/
theorem Tp.vd {T inn : Addr → Prop} {v : V} {d : Dt} (h : Tp T inn H v d) : Vd (fun _ => True) 3 H v d := by
  rcases h with ⟨a, xs, ds, e1, k, e2, h1, h2, h3⟩ | h | ⟨a, xs, ds, e1, e2, h1, h2, h3⟩
  · exact .inr (.inr ⟨a, xs, ds, e1, e2, trivial, h1, h2, Paired.mapP h3 fun _ _ z => Vd.mono (fun _ _ _ _ => trivial) z⟩)
  · exact .inl h
  · exact .inr (.inl ⟨a, xs, ds, e1, e2, h1, h2, Paired.mapP h3 fun _ _ z => Vd.mono (fun _ _ _ _ => trivial) z⟩)
def optDt : Option (Nat × Nat) → Dt
  | none => .flat .non
  | some s => stopDt s
def slowDt : Option (Nat × Nat × Nat) → Dt
  | none => .flat .non
  | some b => .tup [.flat (.int b.1), .flat (.int b.2.1), .flat (.int b.2.2)]
def stopsDt (l : List (Nat × Nat)) : Dt := .lst (l.map stopDt)
def natsDt (l : List Nat) : Dt := .lst (l.map natDt)
theorem tp_stops {T inn : Addr → Prop} {a : Addr} {ws : List V} {l : List (Nat × Nat)} (k : T a) (h : H a = some (.lst ws)) (hw : Paired (StopAt H) ws l) (hl : l.length ≤ 1000) : Tp T inn H (.ref a) (stopsDt l) :=
  .inl ⟨a, _, _, rfl, k, rfl, h, by rw [hw.length]; exact hl, pair_up (vd_stops hw)⟩
theorem tp_nats {T inn : Addr → Prop} {a : Addr} {l : List Nat} (k : T a) (h : H a = some (.lst (nints l))) (hl : l.length ≤ 1000) : Tp T inn H (.ref a) (natsDt l) :=
  .inl ⟨a, _, _, rfl, k, rfl, h, by rw [nints_len]; exact hl, vd_nats l⟩
theorem tp_opt {T inn : Addr → Prop} {v : V} {o : Option (Nat × Nat)} (h : OptStop H v o) : Tp T inn H v (optDt o) := by
  cases o with
  | none =>
    obtain rfl : v = .non := h
    exact .inr (.inl ⟨rfl, .inl rfl⟩)
  | some s =>
    obtain ⟨u, rfl, hu⟩ := h
    exact .inr (.inr ⟨u, _, _, rfl, rfl, hu, by show 2 ≤ 1000; decide, .cons vd_int (.cons vd_int .nil)⟩)
theorem tp_slow {T inn : Addr → Prop} {v : V} {o : Option (Nat × Nat × Nat)} (h : SlowAt H v o) : Tp T inn H v (slowDt o) := by
  cases o with
  | none =>
    obtain rfl : v = .non := h
    exact .inr (.inl ⟨rfl, .inl rfl⟩)
  | some s =>
    obtain ⟨u, rfl, hu⟩ := h
    exact .inr (.inr ⟨u, _, _, rfl, rfl, hu, by show 3 ≤ 1000; decide, .cons vd_int (.cons vd_int (.cons vd_int .nil))⟩)
theorem tp_str {T inn : Addr → Prop} {s : Str} : Tp T inn H (.str s) (.flat (.str s)) := .inr (.inl ⟨rfl, .inr (.inr (.inr ⟨s, rfl⟩))⟩)
theorem vd_str {n : Nat} {s : Str} : Vd ok n H (.str s) (.flat (.str s)) := by
  cases n with
  | zero => exact ⟨rfl, .inr (.inr (.inr ⟨s, rfl⟩))⟩
  | succ n => exact .inl ⟨rfl, .inr (.inr (.inr ⟨s, rfl⟩))⟩
def whDt (p : Nat) (os : List Od) (z : Nat) (c : Nat × Nat) : Dt := .tup ((whV p os z c).map Dt.flat)
theorem tp_wh {T inn : Addr → Prop} {p : Nat} {os : List Od} {z : Nat} {c : Nat × Nat} {u : Addr} (h : H u = some (.tup (whV p os z c))) : Tp T inn H (.ref u) (whDt p os z c) := by
  refine .inr (.inr ⟨u, _, _, rfl, rfl, h, ?_, ?_⟩)
  · unfold whV
    split
    · show 2 ≤ 1000; decide
    · split
      · show 2 ≤ 1000; decide
      · show 4 ≤ 1000; decide
  · unfold whV
    split
    · exact .cons vd_str (.cons vd_int .nil)
    · split
      · exact .cons vd_str (.cons vd_int .nil)
      · exact .cons vd_str (.cons vd_int (.cons vd_int (.cons vd_int .nil)))
theorem tp_loops {T inn : Addr → Prop} {H0 : Hp} {r : Addr} {as : List Addr} {ls : List (List (Nat × Nat))} (k : T r) (h : LpsAt H0 H r as ls) (hi : ∀ a ∈ as, inn a) (hl : ls.length ≤ 1000) (h2 : ∀ l ∈ ls, l.length ≤ 1000) : Tp T inn H (.ref r) (.lst (ls.map stopsDt)) := by
  refine .inl ⟨r, _, _, rfl, k, rfl, h.at_, by rw [List.length_map, h.loops.length]; exact hl, ?_⟩
  have hP := h.loops
  clear h hl k
  induction hP with
  | nil => exact .nil
  | cons q _ ih =>
    obtain ⟨u, ws, e, h1, h3⟩ := q
    cases e
    refine .cons (.inr (.inr ⟨_, ws, _, rfl, rfl, hi _ List.mem_cons_self, h1, by rw [h3.length]; exact h2 _ List.mem_cons_self, vd_stops h3⟩)) (ih (fun a z => hi a (List.mem_cons_of_mem _ z)) fun l z => h2 l (List.mem_cons_of_mem _ z))
theorem same_bk {a : Addr} (s : Same H H') (n : H' a = none) : H a = none := by
  cases e : H a with
  | none => rfl
  | some o => rw [s _ _ e] at n; cases n
end
abbrev s_l_results : Stmt := top 64
abbrev N_l_results : List Str := ["_law_net_here", "_law_results_here"]
abbrev P_l_results : List Str := ["_law_net_here"]
theorem sc_l_results : FnScope N_l_results P_l_results (defScope s_l_results) := ⟨rfl, rfl, rfl, by decide +kernel, rfl, by decide +kernel, by decide +kernel⟩
theorem cyc_len2 {p h : Nat} {os : List Od} {l : List (Nat × Nat)} (ok : NetOk p h os) (c : Cyc p os l) (hl : ∀ x ∈ l, x.1 < h) : l.length ≤ h * p := by
  obtain ⟨f, n, c⟩ := c
  refine places_bound ok.p1 hl ?_
  have e : l.map (plc p) = l := by
    conv => rhs; rw [← List.map_id l]
    refine List.map_congr_left fun x hx => ?_
    obtain ⟨i, rfl⟩ := c.mem.mp hx
    exact c.place i
  rw [e]
  exact c.nd
theorem loopsN_len {p h : Nat} {os : List Od} : (loopsN p h os).length ≤ h * p := Nat.le_trans (List.length_filterMap_le _ _) (Nat.le_of_eq lets_len)
theorem loopsN_each {p h : Nat} {os : List Od} (ok : NetOk p h os) : ∀ l ∈ loopsN p h os, l.length ≤ h * p := fun l hl => by
  obtain ⟨q, hq, e⟩ := List.mem_filterMap.mp hl
  obtain ⟨c, hx, _⟩ := lp_cyc ok (mem_lets.mp hq).1 (goodL_some e).1
  exact cyc_len2 ok c hx
/-- what _law_results gives; sl: the senders, c: where the letter is -/
def resDt (p h : Nat) (os : List Od) (o : Od) (sl : List (Nat × Nat)) (c : Nat × Nat) : List Dt :=
  [stopsDt (way p os 5 (0, 2)), .lst ((loopsN p h os).map stopsDt), natsDt (codeOf p h os), natsDt (harmN p h os), stopsDt sl, natsDt (idleL p h os), slowDt (slowN p h os), optDt (destOf (folR p h os (0, 4))),
   whDt p os 6 c, .flat (.str (textOf p h os)), natsDt (arr p h os 0 p), stopsDt (candsL h o.s)]
def Rs (p h : Nat) (os : List Od) (ds : List Dt) : Prop := ∃ o sl c j, os[0]? = some o ∧ sl.Pairwise (fun a b => ltS a b = true) ∧ (∀ s, s ∈ sl ↔ s.1 < h ∧ dst p h os s = some (1, 9)) ∧ LastAt p os (0, 2) 6 c j ∧ ds = resDt p h os o sl c
theorem Rs.uniq {p h : Nat} {os : List Od} {ds ds' : List Dt} (ok : NetOk p h os) (a : Rs p h os ds) (b : Rs p h os ds') : ds = ds' := by
  obtain ⟨o, sl, c, j, h1, h2, h3, h4, rfl⟩ := a
  obtain ⟨o', sl', c', j', g1, g2, g3, g4, rfl⟩ := b
  cases h1.symm.trans g1
  obtain rfl := wr_uniq h2 g2 fun s => (h3 s).trans (g3 s).symm
  obtain ⟨rfl, _⟩ := LastAt.uniq ok h4 g4
  rfl
def spRes29 (C : Addr) : Sp := fun vs H Q _ => ∃ (x t : Addr) (p h : Nat) (os : List Od) (F : List Addr), vs = [.ref x] ∧ NetAt C H x p h os t F ∧ NetOk p h os ∧ 2 ≤ h ∧ os ≠ [] ∧
  ∀ (H' : Hp) (r : Addr) (vs : List V) (ds : List Dt) (tops : List Addr), Same H H' → H r = none → r ∉ tops → (∀ a ∈ tops, H a = none ∧ ∃ xs, H' a = some (.lst xs) ∧ xs.length ≤ 1000) → H' r = some (.lst vs) → Paired (Tp (· ∈ tops) (fun a => H a = none ∧ a ∉ tops ∧ a ≠ r) H') vs ds → Rs p h os ds → Q (.ref r) H'
section
variable {P : Program} {w : World} {K : PySem.W.Frag} {mg : Str → Option Value} {base : Heap}
set_option maxHeartbeats 0 in
theorem ok_results {f C O fR pI fI pT fT fW pC fC : Addr} {fd fdR fdI fdT fdW fdC : FuncData} (F : Fun K "_law_results" "_law_results" s_l_results f fd) (B : Blt mg) (T : NetT K C) (TW : WatT K O)
    (mR : Meth K C "route" fR) (GR : GFn P w K mg base 5 fR fdR P_Net_route (spRoute C)) (bR : Binds K fdR P_Net_route [])
    (DL : Df P w K mg base "loops" 8 P_loops (spLoops C)) (DE : Df P w K mg base "encode" 2 P_encode (spEncode C)) (DH : Df P w K mg base "harmful_orders" 8 P_harmful_orders (spHarm C)) (DS : Df P w K mg base "senders" 6 P_senders (spSenders C))
    (qI : PropOf K C "idle_orders" pI fI) (GI : FnOk P w K mg base CX0 2 fI fdI P_Net_idle_orders (spIdle C)) (bI : Binds K fdI P_Net_idle_orders [])
    (DW : Df P w K mg base "slowest" 8 P_slowest (spSlow C)) (DD : Df P w K mg base "destination" 8 P_destination (spDest C)) (DX : Df P w K mg base "where" 9 P_where (spWhere C))
    (qT : PropOf K C "text" pT fT) (GT : FnOk P w K mg base CX0 2 fT fdT P_Net_text (spText C)) (bT : Binds K fdT P_Net_text []) (DY : Df P w K mg base "day_sets" 8 P_day_sets (spSets C))
    (gO : mg "Watcher" = some (.ref O)) (MW : Mk K O fW) (GW : FnOk P w K mg base CX0 8 fW fdW P_Watcher_init (spWInit O C)) (bW : Binds K fdW P_Watcher_init [])
    (qC : PropOf K O "candidates" pC fC) (GC : FnOk P w K mg base CX0 1 fC fdC P_Watcher_candidates (spWCands O C)) (bC : Binds K fdC P_Watcher_candidates []) : FnOk P w K mg base CX0 10 f fd P_l_results (spRes29 C) := by
  obtain ⟨fL, dL, gL, kL, bL, GL⟩ := DL
  obtain ⟨fE, dE, gE, kE, bE, GE⟩ := DE
  obtain ⟨fH, dH, gH, kH, bH, GH⟩ := DH
  obtain ⟨fS, dS, gS, kS, bS, GS⟩ := DS
  obtain ⟨fw, dw, gW, kW, bWw, GWw⟩ := DW
  obtain ⟨fD, dD, gD, kD, bD, GD⟩ := DD
  obtain ⟨fX, dX, gX, kX, bX, GX⟩ := DX
  obtain ⟨fY, dY, gY, kY, bY, GY⟩ := DY
  refine F.ok sc_l_results (fun vs H Q E h => ?_) (fun cdv A outer s H vs Q E hr h => ?_)
  · obtain ⟨x, t, p, h, os, F, rfl, _⟩ := h
    rfl
  · obtain ⟨x, t, p, h, os, F, rfl, N, ok, h2, ne, q⟩ := h
    have hr3 : Room 3 _ := hr.mono (by decide)
    have hr2 : Room 2 _ := hr.mono (by decide)
    have hr5 : Room 5 _ := hr.mono (by decide)
    have hr6 : Room 6 _ := hr.mono (by decide)
    have hr8 : Room 8 _ := hr.mono (by decide)
    refine ⟨_, (pss_cons (ps_set (i := 1) sc_l_results.nd rfl (.inl rfl) (pe_lst (pa_cons (pe_listG (pgen_meth (E := E0) (pv 0) T.cl mR GR hr5 bR .nil (pa_cons pe_int (pa_cons pe_int (pa_cons pe_int pa_nil)))) passL (fun _ _ _ z => z.elim) hr8 (by rfl) B.list (by decide +kernel)) (pa_cons (pe_call GL hr8 (by rfl) gL kL bL .nil pass0 (pa_cons (pv 0) pa_nil)) (pa_cons (pe_call GE hr2 (by rfl) gE kE bE .nil pass0 (pa_cons (pv 0) pa_nil)) (pa_cons (pe_call GH hr8 (by rfl) gH kH bH .nil pass0 (pa_cons (pv 0) pa_nil)) (pa_cons (pe_call GS hr6 (by rfl) gS kS bS .nil pass0 (pa_cons (pv 0) (pa_cons pe_int (pa_cons pe_int pa_nil)))) pa_nil)))))))
      (pss_cons (ps_set (i := 1) sc_l_results.nd rfl (.inl rfl) (pe_op op_cat (pv 1) (pe_lst (pa_cons (pe_prop (pv 0) T.cl qI GI hr3 bI .nil pass0 rfl) (pa_cons (pe_call GWw hr8 (by rfl) gW kW bWw .nil pass0 (pa_cons (pv 0) pa_nil)) (pa_cons (pe_call GD hr8 (by rfl) gD kD bD .nil pass0 (pa_cons (pv 0) (pa_cons pe_int (pa_cons pe_int pa_nil)))) (pa_cons (pe_call GX hr (by rfl) gX kX bX .nil pass0 (pa_cons (pv 0) (pa_cons pe_int (pa_cons pe_int (pa_cons pe_int pa_nil))))) (pa_cons (pe_prop (pv 0) T.cl qT GT hr3 bT .nil pass0 rfl) pa_nil))))))))
      (pss_one (ps_ret (pe_op op_cat (pv 1) (pe_lst (pa_cons (pe_callTy call_list_of (by rfl) B.list (by decide +kernel) (pa_cons (pe_ix ix_tup (pe_call GY hr8 (by rfl) gY kY bY .nil pass0 (pa_cons (pv 0) (pa_cons pe_int pa_nil))) pe_int (fun _ _ => rfl)) pa_nil)) (pa_cons (pe_prop (pe_make MW GW hr (by rfl) gO bW .nil pass0 (pa_cons (pv 0) (pa_cons pe_int pa_nil))) TW.cl qC GC hr2 bC .nil pass0 rfl) pa_nil)))))))), ?_⟩
    have p30 := ok.p30; have h10 := ok.h10; have ol := ok.len
    obtain ⟨dx, fl, as0, _, hx, _⟩ := id N
    obtain ⟨o, os', eos⟩ := List.exists_cons_of_ne_nil ne
    have ho : os[0]? = some o := by rw [eos]; rfl
    refine ⟨_, rfl, x, dx, _, rfl, hx, nf_no (by decide +kernel) (by decide +kernel) (by decide +kernel) (by decide +kernel), x, t, p, h, 0, 2, 5, os, F, rfl, N, ok, by omega, by decide, by decide, fun ys H1 s1 hys a0 n0 => ?_⟩
    have sA := s1.trans (same_upd (o := HO.lst ys) n0)
    refine ⟨_, rfl, x, t, p, h, os, F, rfl, N.same sA, ok, fun H2 a1 as s2 L => ?_⟩
    have sB := sA.trans s2
    refine ⟨_, rfl, x, t, p, h, os, F, rfl, N.same sB, ok, fun H3 a2 s3 n2 e2 => ?_⟩
    have sC := sB.trans s3
    refine ⟨_, rfl, x, t, p, h, os, F, rfl, N.same sC, ok, fun H4 a3 s4 n3 e3 => ?_⟩
    have sD := sC.trans s4
    refine ⟨_, rfl, x, t, p, h, 1, 9, os, F, rfl, N.same sD, ok, by omega, by decide, fun H5 a4 ws4 sl s5 n4 e4 hw4 pw4 mem4 len4 => ?_⟩
    have sE := sD.trans s5
    refine ⟨(by show 5 ≤ sizeLine; decide), fun u1 nu1 => ?_⟩
    have sF := sE.trans (same_upd (o := HO.lst [.ref a0, .ref a1, .ref a2, .ref a3, .ref a4]) nu1)
    refine ⟨_, rfl, _, rfl, x, dx, _, rfl, sF _ _ hx, x, t, p, h, os, F, rfl, N.same sF, ok, fun H6 a5 s6 n5 e5 => ?_⟩
    have sG := sF.trans s6
    refine ⟨_, rfl, x, t, p, h, os, F, rfl, N.same sG, ok, fun H7 v6 s7 e6 => ?_⟩
    have sH := sG.trans s7
    refine ⟨_, rfl, x, t, p, h, 0, 4, os, F, rfl, N.same sH, ok, by omega, by decide, fun H8 v7 s8 e7 => ?_⟩
    have sI := sH.trans s8
    refine ⟨_, rfl, x, t, p, h, 0, 2, 6, os, F, rfl, N.same sI, ok, by omega, by decide, by decide, fun H9 v8 s9 _ e8 => ?_⟩
    have sJ := sI.trans s9
    obtain ⟨u8, c8, j8, rfl, la8, hu8⟩ := e8 (by decide)
    refine ⟨_, rfl, x, dx, _, rfl, sJ _ _ hx, x, t, p, h, os, F, rfl, N.same sJ, ok, fun H10 s10 => ?_⟩
    have sK := sJ.trans s10
    refine ⟨(by show 5 ≤ sizeLine; decide), fun u2 nu2 => ?_⟩
    have fK := s6.trans (s7.trans (s8.trans (s9.trans s10)))
    have sL := sK.trans (same_upd (o := HO.lst [.ref a5, v6, v7, .ref u8, .str (textOf p h os)]) nu2)
    have fL := fK.trans (same_upd (o := HO.lst [.ref a5, v6, v7, .ref u8, .str (textOf p h os)]) nu2)
    refine ⟨u1, u2, _, _, rfl, rfl, fL _ _ upd_same, upd_same, (by show 10 ≤ sizeLine; decide), fun u3 nu3 => ?_⟩
    have sM := sL.trans (same_upd (o := HO.lst ([.ref a0, .ref a1, .ref a2, .ref a3, .ref a4] ++ [.ref a5, v6, v7, .ref u8, .str (textOf p h os)])) nu3)
    refine ⟨_, rfl, _, rfl, x, t, p, h, 0, os, F, rfl, N.same sM, ok, by omega, fun H11 r11 b1 b2 b3 s11 nr nb1 _ _ _ _ _ hr11 hb1 _ _ => ?_⟩
    refine ⟨r11, _, 0, _, rfl, rfl, SqT.of hr11, rfl, b1, _, rfl, .inl (SqL.of hb1), fun a10 n10 => ?_⟩
    have sO := (sM.trans s11).trans (same_upd (o := HO.lst (nints (arr p h os 0 p))) n10)
    refine ⟨_, rfl, fun wx wd nwx nwd nex => ?_⟩
    have sP := same_upd (o := HO.own wx) nwd
    have sQ := same_upd (o := HO.ins O wd []) ((upd_ne (o := HO.own wx) (fun z => nex z.symm)).trans nwx)
    refine ⟨wx, wd, x, t, p, h, 0, os, F, o, _, rfl, N.same sO, ok, ho, sP.trans sQ, nwx, upd_same, fun H12 w12 cs12 r12 ac12 s12 _ _ W12 => ⟨rfl, ?_⟩⟩
    obtain ⟨dw, hw12⟩ := W12.ins
    refine ⟨wx, dw, _, rfl, hw12, wx, _, rfl, W12, fun H13 a11 ws11 s13 n11 h11 hp11 => ?_⟩
    refine ⟨(by show 2 ≤ sizeLine; decide), fun u4 nu4 => ?_⟩
    have sR := s13.trans (same_upd (o := HO.lst [.ref a10, .ref a11]) nu4)
    have fR := (s11.trans (same_upd (o := HO.lst (nints (arr p h os 0 p))) n10)).trans (s12.trans sR)
    refine ⟨u3, u4, _, _, rfl, rfl, fR _ _ upd_same, upd_same, (by show 12 ≤ sizeLine; decide), fun u5 nu5 => ?_⟩
    have sZ := same_upd (o := HO.lst ([.ref a0, .ref a1, .ref a2, .ref a3, .ref a4] ++ [.ref a5, v6, v7, .ref u8, .str (textOf p h os)] ++ [.ref a10, .ref a11])) nu5
    have zR := sR.trans sZ
    have z13 := (same_upd (o := HO.lst [.ref a10, .ref a11]) nu4).trans sZ
    have zO := s12.trans zR
    have z11 := (same_upd (o := HO.lst (nints (arr p h os 0 p))) n10).trans zO
    have zM := s11.trans z11
    have z10 := (same_upd (o := HO.lst [.ref a5, v6, v7, .ref u8, .str (textOf p h os)]) nu2).trans ((same_upd (o := HO.lst ([.ref a0, .ref a1, .ref a2, .ref a3, .ref a4] ++ [.ref a5, v6, v7, .ref u8, .str (textOf p h os)])) nu3).trans zM)
    have z9 := s10.trans z10
    have z8 := s9.trans z9
    have z7 := s8.trans z8
    have z6 := s7.trans z7
    have zF := s6.trans z6
    have z5 := (same_upd (o := HO.lst [.ref a0, .ref a1, .ref a2, .ref a3, .ref a4]) nu1).trans zF
    have z4 := s5.trans z5
    have z3 := s4.trans z4
    have z2 := s3.trans z3
    have zA := s2.trans z2
    have k0 := same_bk s1 n0
    have k1 := same_bk sA L.r0
    have k2 := same_bk sB n2
    have k3 := same_bk sC n3
    have k4 := same_bk sD n4
    have k5 := same_bk sF n5
    have k10 := same_bk (sM.trans s11) n10
    have k11 := same_bk (sO.trans s12) n11
    have sAll := (sO.trans s12).trans zR
    have ke5 := same_bk ((sO.trans s12).trans sR) nu5
    have hA : ∀ a ∈ as, ∃ o, H2 a = some o := fun a ha => by
      obtain ⟨l, _, u, ws, e, h1, _⟩ := pair_mem L.loops ha
      cases e
      exact ⟨_, h1⟩
    have c50 : 5 * h ≤ 50 := by omega
    have hp300 : h * p ≤ 300 := Nat.le_trans (Nat.mul_le_mul h10 p30) (by decide)
    refine q _ u5 _ (resDt p h os o sl c8) [a0, a1, a2, a3, a4, a5, a10, a11] sAll ke5 ?_ ?_ upd_same ?_ ⟨o, sl, c8, j8, ho, pw4, mem4, la8, rfl⟩
    · intro z
      simp only [List.mem_cons, List.not_mem_nil, or_false] at z
      have b4 := same_bk (H' := upd H13 u4 (HO.lst [V.ref a10, V.ref a11])) (.refl _) nu5
      have y13 := same_upd (o := HO.lst [.ref a10, .ref a11]) nu4
      have yO := s12.trans sR
      have y11 := (same_upd (o := HO.lst (nints (arr p h os 0 p))) n10).trans yO
      have y10 := (same_upd (o := HO.lst [.ref a5, v6, v7, .ref u8, .str (textOf p h os)]) nu2).trans ((same_upd (o := HO.lst ([.ref a0, .ref a1, .ref a2, .ref a3, .ref a4] ++ [.ref a5, v6, v7, .ref u8, .str (textOf p h os)])) nu3).trans (s11.trans y11))
      have y6 := s7.trans (s8.trans (s9.trans (s10.trans y10)))
      have y5 := (same_upd (o := HO.lst [.ref a0, .ref a1, .ref a2, .ref a3, .ref a4]) nu1).trans (s6.trans y6)
      have y4 := s5.trans y5
      have y3 := s4.trans y4
      have y2 := s3.trans y3
      have yA := s2.trans y2
      rcases z with z | z | z | z | z | z | z | z
      · exact ne_of_none (yA _ _ upd_same) nu5 z.symm
      · exact ne_of_none (y2 _ _ L.at_) nu5 z.symm
      · exact ne_of_none (y3 _ _ e2) nu5 z.symm
      · exact ne_of_none (y4 _ _ e3) nu5 z.symm
      · exact ne_of_none (y5 _ _ e4) nu5 z.symm
      · exact ne_of_none (y6 _ _ e5) nu5 z.symm
      · exact ne_of_none (yO _ _ upd_same) nu5 z.symm
      · exact ne_of_none (y13 _ _ h11) nu5 z.symm
    · intro a z
      simp only [List.mem_cons, List.not_mem_nil, or_false] at z
      rcases z with rfl | rfl | rfl | rfl | rfl | rfl | rfl | rfl
      · exact ⟨k0, _, zA _ _ upd_same, by rw [hys.length]; exact Nat.le_trans (way_len p os 5 (0, 2)) (by decide)⟩
      · exact ⟨k1, _, z2 _ _ L.at_, by rw [List.length_map, L.loops.length]; exact Nat.le_trans loopsN_len (by omega)⟩
      · exact ⟨k2, _, z3 _ _ e2, by rw [nints_len, codeOf_len]; omega⟩
      · exact ⟨k3, _, z4 _ _ e3, by rw [nints_len]; exact Nat.le_trans (List.length_filter_le _ _) (by rw [List.length_range]; omega)⟩
      · exact ⟨k4, _, z5 _ _ e4, by rw [hw4.length]; omega⟩
      · exact ⟨k5, _, z6 _ _ e5, by rw [nints_len]; exact Nat.le_trans (List.length_filter_le _ _) (by rw [List.length_range]; omega)⟩
      · exact ⟨k10, _, zO _ _ upd_same, by rw [nints_len]; exact Nat.le_trans (List.length_filter_le _ _) (by rw [List.length_range]; omega)⟩
      · exact ⟨k11, _, z13 _ _ h11, by rw [hp11.length]; exact Nat.le_trans candsL_len (by omega)⟩
    · refine .cons (tp_stops (by simp) (zA _ _ upd_same) (Paired.mapP hys fun _ _ z => z.keep (tk_of ((same_upd n0).trans zA))) (Nat.le_trans (way_len p os 5 (0, 2)) (by decide))) ?_
      refine .cons (tp_loops (by simp) (L.same z2) (fun a ha => ⟨same_bk sA (L.new a ha), fun z => ?_, ?_⟩) (Nat.le_trans loopsN_len (by omega)) fun l hl => Nat.le_trans (loopsN_each ok l hl) (by omega)) ?_
      · obtain ⟨oa, hoa⟩ := hA a ha
        simp only [List.mem_cons, List.not_mem_nil, or_false] at z
        rcases z with z | z | z | z | z | z | z | z
        · exact ne_of_none upd_same (L.new a ha) z.symm
        · exact L.ne (z ▸ ha)
        · exact ne_of_none hoa n2 z
        · exact ne_of_none (s3 _ _ hoa) n3 z
        · exact ne_of_none (s4 _ _ (s3 _ _ hoa)) n4 z
        · exact ne_of_none (((s3.trans s4).trans (s5.trans (same_upd nu1))) _ _ hoa) n5 z
        · exact ne_of_none (((s3.trans s4).trans ((s5.trans (same_upd nu1)).trans ((fL.trans (same_upd nu3)).trans s11))) _ _ hoa) n10 z
        · exact ne_of_none (((s3.trans s4).trans ((s5.trans (same_upd nu1)).trans (((fL.trans (same_upd nu3)).trans s11).trans ((same_upd n10).trans s12)))) _ _ hoa) n11 z
      · obtain ⟨oa, hoa⟩ := hA a ha
        exact ne_of_none (((s3.trans s4).trans ((s5.trans (same_upd nu1)).trans (((fL.trans (same_upd nu3)).trans s11).trans ((same_upd n10).trans (s12.trans sR))))) _ _ hoa) nu5
      refine .cons (tp_nats (by simp) (z3 _ _ e2) (by rw [codeOf_len]; omega)) ?_
      refine .cons (tp_nats (by simp) (z4 _ _ e3) (Nat.le_trans (List.length_filter_le _ _) (by rw [List.length_range]; omega))) ?_
      refine .cons (tp_stops (by simp) (z5 _ _ e4) (Paired.mapP hw4 fun _ _ z => z.keep (tk_of z5)) (by omega)) ?_
      refine .cons (tp_nats (by simp) (z6 _ _ e5) (Nat.le_trans (List.length_filter_le _ _) (by rw [List.length_range]; omega))) ?_
      refine .cons (tp_slow (SlowAt.keep (tk_of z7) e6)) ?_
      refine .cons (tp_opt (OptStop.keep (tk_of z8) e7)) ?_
      refine .cons (tp_wh (z9 _ _ hu8)) ?_
      refine .cons tp_str ?_
      refine .cons (tp_nats (by simp) (zO _ _ upd_same) (Nat.le_trans (List.length_filter_le _ _) (by rw [List.length_range]; omega))) ?_
      refine .cons (tp_stops (by simp) (z13 _ _ h11) (Paired.mapP hp11 fun _ _ z => z.keep (tk_of z13)) (Nat.le_trans candsL_len (by omega))) .nil
end
/-! ### nets, results and what is kept of them -/
abbrev Nz := Nat × Nat × List Od
def NetV (C : Addr) (H : Hp) (v : V) (z : Nz) : Prop := ∃ x t F, v = .ref x ∧ NetAt C H x z.1 z.2.1 z.2.2 t F ∧ NetOk z.1 z.2.1 z.2.2 ∧ 2 ≤ z.2.1 ∧ z.2.1 ≤ 4 ∧ z.2.2 ≠ []
def RsV (Hn : Hp) (D : Addr) (tops : List Addr) (H : Hp) (v : V) (z : Nz) : Prop := ∃ r vs ds, v = .ref r ∧ H r = some (.lst vs) ∧ r ∉ tops ∧ r ≠ D ∧ Paired (Tp (· ∈ tops) (fun a => Hn a = none ∧ a ∉ tops ∧ a ≠ D) H) vs ds ∧ Rs z.1 z.2.1 z.2.2 ds
def TopsOk (Hn : Hp) (D : Addr) (tops : List Addr) (H : Hp) : Prop := ∀ a ∈ tops, Hn a = none ∧ a ≠ D ∧ ∃ xs, H a = some (.lst xs) ∧ xs.length ≤ 1000
def KpV (H4 : Hp) (tops : List Addr) (E : Addr) (H : Hp) (v : V) (z : Nz) : Prop := ∃ m vs ds, v = .ref m ∧ H m = some (.lst vs) ∧ H4 m = none ∧ m ≠ E ∧ Paired (Vd (fun a => a ∉ tops ∧ a ≠ E) 3 H) vs ds ∧ Rs z.1 z.2.1 z.2.2 ds
structure FRs (Hn : Hp) (D : Addr) (H : Hp) (tops : List Addr) (rs : List V) (zs : List Nz) : Prop where
  at_ : H D = some (.lst rs)
  same : Same Hn H
  top : TopsOk Hn D tops H
  rs : Paired (RsV Hn D tops H) rs zs
section
variable {C D : Addr} {Hn H H' H4 : Hp} {tops tops' : List Addr}
theorem Rs.len {p h : Nat} {os : List Od} {ds : List Dt} (r : Rs p h os ds) : ds.length = 12 := by
  obtain ⟨o, sl, c, j, _, _, _, _, rfl⟩ := r
  rfl
theorem NetAt.upto {ok : Addr → Prop} {x t : Addr} {p h : Nat} {os : List Od} {F : List Addr} (N : NetAt C H x p h os t F) (u : Upto ok H H') (k : ∀ a, H a ≠ none → ok a) : NetAt C H' x p h os t F := by
  obtain ⟨dx, fl, as, rfl, h1, h2, h3, h4, h5⟩ := N
  have g : ∀ a o, H a = some o → H' a = some o := fun a o e => u a o e fun _ => k a (by rw [e]; exact fun z => by cases z)
  exact ⟨dx, fl, as, rfl, g _ _ h1, h2.keep u.tk, g _ _ h3, h4, fun i a hi => g _ _ (h5 i a hi)⟩
theorem NetV.same {v : V} {z : Nz} (N : NetV C H v z) (s : Same H H') : NetV C H' v z := by
  obtain ⟨x, t, F, e, n, r⟩ := N
  exact ⟨x, t, F, e, n.same s, r⟩
theorem Tp.mono {T T' inn inn' : Addr → Prop} {v : V} {d : Dt} (h : Tp T inn H v d) (f : ∀ a, T a → T' a) (g : ∀ a xs, inn a → H a = some (.lst xs) → inn' a) : Tp T' inn' H v d := by
  rcases h with ⟨a, xs, ds, e1, k, e2, h1, h2, h3⟩ | h | ⟨a, xs, ds, e1, e2, h1, h2, h3⟩
  · exact .inl ⟨a, xs, ds, e1, f _ k, e2, h1, h2, Paired.mapP h3 fun _ _ z => Vd.mono g z⟩
  · exact .inr (.inl h)
  · exact .inr (.inr ⟨a, xs, ds, e1, e2, h1, h2, Paired.mapP h3 fun _ _ z => Vd.mono g z⟩)
theorem pair_app2 {α β : Type} {F : α → β → Prop} : ∀ {a : List α} {b : List β} {c : List α} {d : List β}, Paired F a b → Paired F c d → Paired F (a ++ c) (b ++ d)
  | _, _, _, _, .nil, q => q
  | _, _, _, _, .cons r t, q => .cons r (pair_app2 t q)
/-- another list of results is made, and the list D grows -/
theorem RsV.next {v : V} {z : Nz} {acc : List V} {o : HO} (h : RsV Hn D tops H v z) (s : Same H H') (nt : ∀ a ∈ tops', H a = none) (hD : H' D = some (.lst acc)) (nD : ∀ a ∈ tops ++ tops', a ≠ D) : RsV Hn D (tops ++ tops') (L2.upd H' D o) v z := by
  obtain ⟨r, vs, ds, rfl, h1, h2, h3, h4, h5⟩ := h
  refine ⟨r, vs, ds, rfl, (upd_ne h3).trans (s _ _ h1), fun m => ?_, h3, Paired.mapP h4 fun v d z => ?_, h5⟩
  · rcases List.mem_append.mp m with m | m
    · exact h2 m
    · exact ne_of_none h1 (nt _ m) rfl
  · refine Tp.keep (Tp.mono (T' := (· ∈ tops ++ tops')) (inn' := fun a => Hn a = none ∧ a ∉ tops ++ tops' ∧ a ≠ D) z (fun a m => List.mem_append_left _ m) fun a xs i e => ⟨i.1, fun m => ?_, i.2.2⟩) ((Upto.of s).trans (Upto.mono (ok := fun a => a ≠ D) (Upto.upd hD fun q => q rfl) fun a q => q.elim (nD a) fun q => q.2.2))
    rcases List.mem_append.mp m with m | m
    · exact i.2.1 m
    · exact ne_of_none e (nt _ m) rfl
theorem FRs.start (nD : Hn D = none) : FRs Hn D (L2.upd Hn D (.lst [])) [] [] [] := ⟨upd_same, same_upd nD, fun a z => (by cases z), .nil⟩
theorem FRs.next {rs : List V} {zs : List Nz} {z : Nz} {r : Addr} {vs : List V} {ds : List Dt} (W : FRs Hn D H tops rs zs) (nD : Hn D = none) (s : Same H H') (nr : H r = none) (nrt : r ∉ tops') (tp : ∀ a ∈ tops', H a = none ∧ ∃ xs, H' a = some (.lst xs) ∧ xs.length ≤ 1000)
    (hr : H' r = some (.lst vs)) (hP : Paired (Tp (· ∈ tops') (fun a => H a = none ∧ a ∉ tops' ∧ a ≠ r) H') vs ds) (hR : Rs z.1 z.2.1 z.2.2 ds) : FRs Hn D (L2.upd H' D (.lst (rs ++ [.ref r]))) (tops ++ tops') (rs ++ [.ref r]) (zs ++ [z]) := by
  have hD := s _ _ W.at_
  have bk : ∀ a, H a = none → Hn a = none := fun a e => same_bk W.same e
  have n1 : ∀ a ∈ tops ++ tops', a ≠ D := fun a m => by
    rcases List.mem_append.mp m with m | m
    · exact (W.top a m).2.1
    · exact (ne_of_none W.at_ (tp a m).1).symm
  refine ⟨upd_same, fun a o e => (upd_ne (ne_of_none e nD)).trans (s _ _ (W.same _ _ e)), fun a m => ?_, pair_app2 (Paired.mapP W.rs fun _ _ q => q.next s (fun a m => (tp a m).1) hD n1) (.cons ?_ .nil)⟩
  · refine ⟨?_, n1 a m, ?_⟩
    · rcases List.mem_append.mp m with m | m
      · exact (W.top a m).1
      · exact bk _ (tp a m).1
    · rcases List.mem_append.mp m with m' | m'
      · obtain ⟨_, _, xs, h1, h2⟩ := W.top a m'
        exact ⟨xs, (upd_ne (n1 a m)).trans (s _ _ h1), h2⟩
      · obtain ⟨_, xs, h1, h2⟩ := tp a m'
        exact ⟨xs, (upd_ne (n1 a m)).trans h1, h2⟩
  · have rD : r ≠ D := (ne_of_none W.at_ nr).symm
    refine ⟨r, vs, ds, rfl, (upd_ne rD).trans hr, fun m => ?_, rD, Paired.mapP hP fun v d q => ?_, hR⟩
    · rcases List.mem_append.mp m with m | m
      · obtain ⟨_, _, xs, h1, _⟩ := W.top r m
        exact ne_of_none h1 nr rfl
      · exact nrt m
    · refine Tp.keep (Tp.mono (T' := (· ∈ tops ++ tops')) (inn' := fun a => Hn a = none ∧ a ∉ tops ++ tops' ∧ a ≠ D) q (fun a m => List.mem_append_right _ m) fun a xs i e => ⟨bk _ i.1, fun m => ?_, (ne_of_none W.at_ i.1).symm⟩) (Upto.mono (ok := fun a => a ≠ D) (Upto.upd hD fun q => q rfl) fun a q => q.elim (n1 a) fun q => q.2.2)
      rcases List.mem_append.mp m with m | m
      · obtain ⟨_, _, xs, h1, _⟩ := W.top a m
        exact ne_of_none h1 i.1 rfl
      · exact i.2.1 m
theorem KpV.upto {E : Addr} {v : V} {z : Nz} (h : KpV H4 tops E H v z) (u : Upto (fun a => a ∉ tops ∧ a ≠ E) H H') (ex : ∀ a ∈ tops, H4 a ≠ none) : KpV H4 tops E H' v z := by
  obtain ⟨m, vs, ds, e, h1, h2, h3, h4, h5⟩ := h
  exact ⟨m, vs, ds, e, u.lst h1 ⟨fun q => ex m q h2, h3⟩, h2, h3, Paired.mapP h4 fun _ _ q => Vd.keep u q, h5⟩
theorem TopsOk.ex (h : TopsOk Hn D tops H) : ∀ a ∈ tops, H a ≠ none := fun a m e => by
  obtain ⟨_, _, xs, h1, _⟩ := h a m
  rw [h1] at e
  cases e
/-- the new results are equal to what was kept -/
theorem KpV.eqv {E : Addr} {v : V} {z : Nz} {r : Addr} {vs : List V} {ds : List Dt} {T inn : Addr → Prop} (ok : NetOk z.1 z.2.1 z.2.2) (h : KpV H4 tops E H v z) (hr : H r = some (.lst vs)) (hP : Paired (Tp T inn H) vs ds) (hR : Rs z.1 z.2.1 z.2.2 ds) : Eqv 4 H (.ref r) v := by
  obtain ⟨m, ws, ds', rfl, h1, _, _, h4, h5⟩ := h
  obtain rfl := Rs.uniq ok hR h5
  exact .inr (.inr ⟨r, m, vs, ws, rfl, rfl, hr, h1, by rw [hP.length, hR.len]; decide, pair_two (F := Tp T inn H) (G := Vd (fun a => a ∉ tops ∧ a ≠ E) 3 H) (R := Eqv 3 H) (fun _ _ _ a b => Vd.eqv (Tp.vd a) b) hP h4⟩)
theorem tp_no {K : PySem.W.Frag} {v : V} (h : Flat1 v ∨ ∃ a xs, v = .ref a ∧ H a = some (.tup xs)) : ∃ t, TyX K H v t ∧ PySem.W.kitOne K t (.type "list") = some false := by
  rcases h with (rfl | ⟨b, rfl⟩ | ⟨b, rfl⟩ | ⟨b, rfl⟩) | ⟨a, xs, rfl, h⟩
  · exact ⟨_, .base .non, kit_ty (by decide +kernel)⟩
  · exact ⟨_, .base (.bl b), kit_ty (by decide +kernel)⟩
  · exact ⟨_, .base (.int b), kit_ty (by decide +kernel)⟩
  · exact ⟨_, .base (.str b), kit_ty (by decide +kernel)⟩
  · exact ⟨_, .base (.tup h), kit_ty (by decide +kernel)⟩
theorem vd_push {ok : Addr → Prop} {M : Addr} {ks : List V} {dks : List Dt} {y : V} {d : Dt} (h : Paired (Vd ok 3 H) ks dks) (s : Same H H') (hM : H' M = some (.lst ks)) (n : ¬ ok M) (hy : Vd ok 3 H' y d) :
    Paired (Vd ok 3 (L2.upd H' M (.lst (ks ++ [y])))) (ks ++ [y]) (dks ++ [d]) :=
  pair_app2 (Paired.mapP h fun _ _ q => Vd.keep ((Upto.of s).trans (Upto.upd hM n)) q) (.cons (Vd.keep (Upto.upd hM n) hy) .nil)
end
abbrev s_law : Stmt := top 66
abbrev N_law : List Str := ["_law_script", "_law_d", "_law_k", "_law_nets", "_law_first", "_law_some", "_law_kept", "_law_results_here", "_law_offices", "_law_watchers", "_law_house", "_law_day", "_law_result", "_law_net_here", "_law_one"]
abbrev P_law : List Str := ["_law_script"]
theorem sc_law : FnScope N_law P_law (defScope s_law) := ⟨rfl, rfl, rfl, by decide +kernel, rfl, by decide +kernel, by decide +kernel⟩
section
variable {P : Program} {w : World} {K : PySem.W.Frag} {mg : Str → Option Value} {base : Heap}
theorem tC2_of {σ : L2.St} {H : Hp} {k : List V → Hp → Prop} {a b : V} (h : k [a, b] H) : tCons (tC a) (tCons (tC b) tNil) σ H k := h
theorem candsL_ne {s n : Nat} {c : Nat × Nat} (h : c ∈ candsL n s) : c.1 ≠ s := by
  obtain ⟨t, ht, hc⟩ := List.mem_flatMap.mp h
  unfold rowC at hc
  split at hc
  · cases hc
  · rename_i ne
    obtain ⟨e, _, rfl⟩ := List.mem_map.mp hc
    exact ne
set_option maxHeartbeats 0 in
theorem ok_law {f C O W fO fX pP fP fW fS fR pC fC pH fH : Addr} {fd fdO fdX fdP fdW fdS fdR fdC fdH : FuncData} (F : Fun K "law" "law" s_law f fd) (B : Blt mg) (T : NetT K C) (TO : OffT K O) (TW : WatT K W)
    (DR : Df P w K mg base "_law_random" 2 P_l_random (spRandom K)) (DM : Df P w K mg base "_law_small" 4 P_l_small spSmall) (DN : Df P w K mg base "_law_net" 7 P_l_net (spNet C))
    (DS : Df P w K mg base "_law_results" 10 P_l_results (spRes29 C)) (DE : ∀ n, Df P w K mg base "_law_equal" (n + 2) P_l_equal (spEqual n))
    (gO : mg "Office" = some (.ref O)) (MO : Mk K O fO) (GO : FnOk P w K mg base CX0 1 fO fdO P_Office_init (spOInit O C)) (bO : Binds K fdO P_Office_init [])
    (mX : Meth K O "cancel" fX) (GX : FnOk P w K mg base CX0 4 fX fdX P_Office_cancel (spCancel O C)) (bX : Binds K fdX P_Office_cancel [])
    (qP : PropOf K O "present_orders" pP fP) (GP : FnOk P w K mg base CX0 1 fP fdP P_Office_present_orders (spPres O C)) (bP : Binds K fdP P_Office_present_orders [])
    (gW : mg "Watcher" = some (.ref W)) (MW : Mk K W fW) (GW : FnOk P w K mg base CX0 8 fW fdW P_Watcher_init (spWInit W C)) (bW : Binds K fdW P_Watcher_init [])
    (mS : Meth K W "see" fS) (GS : FnOk P w K mg base CX0 6 fS fdS P_Watcher_see (spWSee W C)) (bS : Binds K fdS P_Watcher_see [])
    (mR : Meth K W "results" fR) (GRs : FnOk P w K mg base CX0 5 fR fdR P_Watcher_results (spWRess W C)) (bRs : Binds K fdR P_Watcher_results [])
    (qC : PropOf K W "candidates" pC fC) (GC : FnOk P w K mg base CX0 1 fC fdC P_Watcher_candidates (spWCands W C)) (bC : Binds K fdC P_Watcher_candidates [])
    (qH : PropOf K W "history" pH fH) (GH : FnOk P w K mg base CX0 1 fH fdH P_Watcher_history (spWHist W C)) (bH : Binds K fdH P_Watcher_history []) : FnOk P w K mg base CX0 11 f fd P_law (spLaw K) := by
  obtain ⟨f1, d1, g1, k1, b1, G1⟩ := DR
  obtain ⟨f3, d3, g3, k3, b3, G3⟩ := DM
  obtain ⟨f4, d4, g4, k4, b4, G4⟩ := DN
  obtain ⟨fRs, dRs, gR, kR, bR, GR⟩ := DS
  obtain ⟨fE, dE, gE, kE, bE, GE⟩ := DE 4
  refine F.ok sc_law (fun vs H Q E h => ?_) (fun cdv A outer s H vs Q E hr h => ?_)
  · obtain ⟨a, ns, rfl, _⟩ := h
    rfl
  · obtain ⟨a, ns, rfl, hS, hlen, q⟩ := h
    have hr2 : Room 2 _ := hr.mono (by decide)
    have hr4 : Room 4 _ := hr.mono (by decide)
    have hr5 : Room 5 _ := hr.mono (by decide)
    have hr6 : Room 6 _ := hr.mono (by decide)
    have hr7 : Room 7 _ := hr.mono (by decide)
    have hr9 : Room 9 _ := hr.mono (by decide)
    have hr10 : Room 10 _ := hr
    have hu : (A.deeper (PyProof.Rows.envOfC "law" (defScope s_law) s.heap.objs.size f cdv)).units + 64 < cLine := hr.units
    refine ⟨_, (pss_cons (ps_set (i := 1) sc_law.nd rfl (.inr rfl) (pe_call G1 hr2 (by rfl) g1 k1 b1 .nil pass0 (pa_cons (pv 0) (pa_cons pe_int pa_nil))))
      (pss_cons (ps_setLc (i := 3) (own := [("_law_k", 2)]) (g := gName 2) (tt := tYes) (te := tCall (spNet C) [] E0 (tCons (tCall spSmall [] E0 (tCons (tVar 1) tNil)) tNil)) (by rfl) sc_law.nd rfl rfl (sw_true rfl rfl rfl (by decide +kernel))
        (pi_range1 rfl B.range (pa_cons pe_int pa_nil)) (blkOk_by (N := N_law) (sc := defScope s_law) (by decide +kernel)) (fun _ _ _ _ _ => (pg_name (i := 2) sc_law.nd rfl (.inl rfl))) (fun _ _ _ _ _ => pts_nil) (fun _ _ _ _ _ => (pe_call G4 hr7 (by rfl) g4 k4 b4 .nil pass0 (pa_cons (pe_call G3 hr4 (by rfl) g3 k3 b3 .nil pass0 (pa_cons (pv 1) pa_nil)) pa_nil))))
      (pss_cons (ps_setLc (i := 4) (own := [("_law_net_here", 13)]) (g := gName 13) (tt := tYes) (te := tCall (spRes29 C) [] E0 (tCons (tVar 13) tNil)) (by rfl) sc_law.nd rfl rfl (sw_true rfl rfl rfl (by decide +kernel))
        (pi_list (pv 3)) (blkOk_by (N := N_law) (sc := defScope s_law) (by decide +kernel)) (fun _ _ _ _ _ => (pg_name (i := 13) sc_law.nd rfl (.inl rfl))) (fun _ _ _ _ _ => pts_nil) (fun _ _ _ _ _ => (pe_call GR hr10 (by rfl) gR kR bR .nil pass0 (pa_cons (pv 13) pa_nil))))
      (pss_cons (ps_setLc (i := 6) (own := [("_law_one", 14)]) (g := gName 14) (tt := tYes) (te := tLc (iList K (tVar 14)) (gName 5) tYes (tIf (tTest (tCB (rIsi K) (tCons (tVar 5) (tCons (tC (.ty "list")) tNil)))) (tCB (fun xs H Q => ∃ p ys, xs = [V.ref p] ∧ (SqL K H p ys ∨ SqT K H p ys) ∧ ∀ l : Addr, H l = none → Q (V.ref l) (upd H l (HO.lst ys))) (tCons (tVar 5) tNil)) (tVar 5)) [5]) (by rfl) sc_law.nd rfl rfl (sw_true rfl rfl rfl (by decide +kernel))
        (pi_list (pv 4)) (blkOk_by (N := N_law) (sc := defScope s_law) (by decide +kernel)) (fun _ _ _ _ _ => (pg_name (i := 14) sc_law.nd rfl (.inl rfl))) (fun _ _ _ _ _ => pts_nil) (fun _ _ _ _ _ => (pe_lc (own := [("_law_some", 5)]) (g := gName 5) (tt := tYes) (te := tIf (tTest (tCB (rIsi K) (tCons (tVar 5) (tCons (tC (.ty "list")) tNil)))) (tCB (fun xs H Q => ∃ p ys, xs = [V.ref p] ∧ (SqL K H p ys ∨ SqT K H p ys) ∧ ∀ l : Addr, H l = none → Q (V.ref l) (upd H l (HO.lst ys))) (tCons (tVar 5) tNil)) (tVar 5)) (by rfl) sc_law.nd (pi_list (pv 14))
 (blkOk_by (N := N_law) (sc := { kind := .function, names := [(Str.ofString ".0", .local), (Str.ofString "_law_one", .local)], isGenerator := false, isCoroutine := false }) (by decide +kernel)) (fun _ _ _ _ _ => (pg_name (i := 5) sc_law.nd rfl (.inl rfl))) (fun _ _ _ _ _ => pts_nil) (fun _ _ _ _ _ => pe_ifExp (pt_val (pe_callB call_isi (by rfl) B.isi PyProof.Rows.boot_isinstance (pa_cons (pv 5) (pa_cons (pe_bltn (v := .ty "list") (by rfl) B.list (by decide +kernel) rfl) pa_nil)))) (pe_callTy call_list_of (by rfl) B.list (by decide +kernel) (pa_cons (pv 5) pa_nil)) (pv 5)))))
      (C8.pss_cut (ps_for PassesOwn.never rfl (pi_list (pv 4)) (pg_name (i := 7) sc_law.nd rfl (.inl rfl)) (pss_one (ps_for PassesOwn.never rfl (pi_list (pv 7)) (pg_name (i := 5) sc_law.nd rfl (.inl rfl)) (pss_one (ps_if (pt_val (pe_callB call_isi (by rfl) B.isi PyProof.Rows.boot_isinstance (pa_cons (pv 5) (pa_cons (pe_bltn (v := .ty "list") (by rfl) B.list (by decide +kernel) rfl) pa_nil)))) (pss_one (ps_expr (pe_bm PySem.F.plainAttrs_list PySem.F.slot_list_append PySem.F.type_list_append mt_append (pv 5) (pa_cons pe_int pa_nil)))) pss_nil)))))
      (C8.pss_cut (ps_for PassesOwn.never rfl (pi_list (pe_lst (pa_cons pe_int (pa_cons pe_int (pa_cons pe_int (pa_cons pe_int pa_nil)))))) (pg_name (i := 2) sc_law.nd rfl (.inl rfl)) (pss_one (ps_if (pt_not (pt_val (pe_call GE hr6 (by rfl) gE kE bE .nil pass0 (pa_cons (pe_call GR hr10 (by rfl) gR kR bR .nil pass0 (pa_cons (pe_ix ix_list (pv 3) (pv 2) (fun _ _ => rfl)) pa_nil)) (pa_cons (pe_ix ix_list (pv 6) (pv 2) (fun _ _ => rfl)) pa_nil))))) (pss_one (ps_ret pe_bl)) pss_nil)))
      (pss_cons (ps_set (i := 8) sc_law.nd rfl (.inl rfl) (pe_lst (pa_cons (pe_make MO GO hr2 (by rfl) gO bO .nil pass0 (pa_cons (pe_ix ix_list (pv 3) pe_int (fun _ _ => rfl)) pa_nil)) (pa_cons (pe_make MO GO hr2 (by rfl) gO bO .nil pass0 (pa_cons (pe_ix ix_list (pv 3) pe_int (fun _ _ => rfl)) pa_nil)) pa_nil))))
      (pss_cons (ps_expr (pe_meth (pe_ix ix_list (pv 8) pe_int (fun _ _ => rfl)) TO.cl mX GX hr4 bX .nil pass0 (pa_cons pe_int pa_nil)))
      (pss_cons (ps_set (i := 9) sc_law.nd rfl (.inl rfl) (pe_lst (pa_cons (pe_make MW GW hr9 (by rfl) gW bW .nil pass0 (pa_cons (pe_ix ix_list (pv 3) pe_int (fun _ _ => rfl)) (pa_cons pe_int pa_nil))) (pa_cons (pe_make MW GW hr9 (by rfl) gW bW .nil pass0 (pa_cons (pe_ix ix_list (pv 3) pe_int (fun _ _ => rfl)) (pa_cons pe_int pa_nil))) pa_nil))))
      (pss_cons (ps_par3 (by rfl) sc_law.nd (i := 10) (j := 11) (l := 12) rfl rfl rfl (by decide) (by decide) (by decide) rfl rfl rfl (pa_cons (pe_ix ix_tup (pe_ix ix_list (pe_prop (pe_ix ix_list (pv 9) pe_int (fun _ _ => rfl)) TW.cl qC GC hr2 bC .nil pass0 rfl) pe_int (fun _ _ => rfl)) pe_int (fun _ _ => rfl)) (pa_cons pe_int (pa_cons (pe_ix ix_list (pe_meth (pe_ix ix_list (pv 9) pe_int (fun _ _ => rfl)) TW.cl mR GRs hr5 bRs .nil pass0 (pa_cons pe_int (pa_cons pe_int pa_nil))) pe_int (fun _ _ => rfl)) pa_nil))) (by rfl))
      (pss_cons (ps_expr (pe_meth (pe_ix ix_list (pv 9) pe_int (fun _ _ => rfl)) TW.cl mS GS hr6 bS .nil pass0 (pa_cons pe_int (pa_cons (pv 11) (pa_cons (pv 12) pa_nil)))))
      (pss_cons (ps_expr (pe_bm PySem.F.plainAttrs_list PySem.F.slot_list_append PySem.F.type_list_append mt_append (pe_prop (pe_ix ix_list (pv 9) pe_int (fun _ _ => rfl)) TW.cl qH GH hr2 bH .nil pass0 rfl) (pa_cons pe_int pa_nil)))
      (pss_cons (ps_if (pt_cmpR op_ne (pe_callB call_len_seq (by rfl) B.len PySem.boot_len (pa_cons (pe_prop (pe_ix ix_list (pv 9) pe_int (fun _ _ => rfl)) TW.cl qH GH hr2 bH .nil pass0 rfl) pa_nil)) pe_int (nomark _)) (pss_one (ps_ret pe_bl)) pss_nil)
      (pss_one (ps_ret (pe_and (pe_cmpR (op_eqD hu) (pe_prop (pe_ix ix_list (pv 8) pe_int (fun _ _ => rfl)) TO.cl qP GP hr2 bP .nil pass0 rfl) (pe_fld (pe_ix ix_list (pv 3) pe_int (fun _ _ => rfl)) rfl) (nomark _)) (pe_and (pe_cmpR (op_eqD hu) (pe_prop (pe_ix ix_list (pv 9) pe_int (fun _ _ => rfl)) TW.cl qH GH hr2 bH .nil pass0 rfl) (pe_lst pa_nil) (nomark _)) (pe_one (pe_cmpR op_ne (pv 10) (pe_ix ix_tup (pe_ix ix_tup (pe_fld (pe_ix ix_list (pv 3) pe_int (fun _ _ => rfl)) rfl) pe_int (fun _ _ => rfl)) pe_int (fun _ _ => rfl)) (nomark _)))))))))))))))))))), ?_⟩
    refine ⟨_, rfl, a, ns, 29, rfl, hS, hlen, by decide, fun H1 d s1 nd D1 => ?_⟩
    refine ⟨2, rfl, by decide, by decide, fun L nL => ?_⟩
    obtain ⟨od, hod⟩ := D1.som
    have nLd : d ≠ L := ne_of_none hod nL
    refine lc_range (lo := 0) (n := (2 : Int).toNat) (fun i H' => ∃ (xs : List V) (zs : List Nz), zs.length = i ∧ H' L = some (.lst xs) ∧ DAt H' d ∧ Paired (fun v z => ∃ x t F, v = .ref x ∧ NetAt C H' x z.1 z.2.1 z.2.2 t F ∧ NetOk z.1 z.2.1 z.2.2 ∧ (2 ≤ z.2.1 ∧ z.2.1 ≤ 4 ∧ z.2.2 ≠ []) ∧ d ∉ F ∧ L ∉ F) xs zs)
      ⟨[], [], rfl, upd_same, D1.but (same_upd nL), .nil⟩ ?_ ?_
    · rintro i H2 hi ⟨xs, zs, zl, hL, D2, hP⟩
      refine ⟨rfl, _, rfl, d, rfl, D2, fun H3 pa p h os ok sm b3 D3 npa ⟨t, hpa, hO⟩ => ?_⟩
      refine ⟨pa, t, p, h, os, rfl, hpa, hO, ok, fun H4 x F s4 nF N => ?_⟩
      have hL3 := b3 _ _ nLd.symm hL
      have hL4 := s4 _ _ hL3
      have xl : xs.length < sizeLine := by
        rw [hP.length, zl]
        exact Nat.lt_of_lt_of_le hi (by decide)
      refine ⟨xs, hL4, xl, xs ++ [.ref x], zs ++ [(p, h, os)], by rw [List.length_append, zl]; rfl, upd_same, ?_, ?_⟩
      · exact (D3.but s4).updN nLd
      · have k3 := b3.tk D2
        have g : ∀ b : Addr, b ≠ d → b ≠ L → ∀ o, H2 b = some o → L2.upd H4 L (.lst (xs ++ [.ref x])) b = some o := fun b n1 n2 o e => (upd_ne n2).trans (s4 _ _ (b3 _ _ n1 e))
        refine pair_app2 (Paired.mapP hP fun v z q => ?_) (.cons ⟨x, t, F, rfl, N.keep (TupKeep.lst hL4) fun b hb o e => (upd_ne fun z => ?_).trans e, ok, ⟨sm.2.1, sm.2.2.1, fun z => by rw [show os = [] from z] at sm; exact absurd sm.2.2.2.1 (by decide)⟩, fun m => ?_, fun m => ?_⟩ .nil)
        · obtain ⟨x', t', F', e, n, ok', sm', m1, m2⟩ := q
          exact ⟨x', t', F', e, n.keep ((k3.trans (tk_of s4)).trans (TupKeep.lst hL4)) fun b hb o e => g b (fun z => m1 (z ▸ hb)) (fun z => m2 (z ▸ hb)) o e, ok', sm', m1, m2⟩
        · subst z
          exact ne_of_none hL3 (nF _ hb) rfl
        · obtain ⟨od3, hod3⟩ := D3.som
          exact ne_of_none hod3 (nF _ m) rfl
        · exact ne_of_none hL3 (nF _ m) rfl
    · rintro H2 ⟨xs, zs, zl, hL, D2, hP0⟩
      have hP : Paired (NetV C H2) xs zs := Paired.mapP hP0 fun v z q => by
        obtain ⟨x, t, F, e, n, ok', ⟨m1, m2, m3⟩, _, _⟩ := q
        exact ⟨x, t, F, e, n, ok', m1, m2, m3⟩
      replace zl : zs.length = 2 := zl
      have xl : xs.length = 2 := by rw [hP.length, zl]
      refine ⟨_, rfl, L, rfl, ⟨_, SqL.of hL⟩, fun D nD => ?_⟩
      refine lc_list (K := K) (a := L) (xs := xs) (fun i H' => ∃ rs tops, FRs H2 D H' tops rs (zs.take i)) ⟨[], [], FRs.start nD⟩ (fun i H' _ ⟨rs, tops, W⟩ => SqL.of (W.same _ _ hL)) ?_ ?_
      · rintro i v H3 hi ⟨rs, tops, W⟩
        have il : i < zs.length := by rw [← hP.length]; exact (List.getElem?_eq_some_iff.mp hi).1
        have ez := List.getElem?_eq_getElem il
        obtain ⟨v', hv', x, t, F, e, N, ok, h2, h4, ne⟩ := Paired.get? (i := i) hP ez
        obtain rfl : v' = v := Option.some.inj (hv'.symm.trans hi)
        subst e
        have et : zs.take (i + 1) = zs.take i ++ [zs[i]] := by rw [List.take_add_one, ez]; rfl
        rw [et]
        refine ⟨rfl, _, rfl, x, t, _, _, _, F, rfl, N.same W.same, ok, h2, ne, fun H4 r vs ds tops' s4 nr nrt tp hr hR hS' => ⟨rs, s4 _ _ W.at_, ?_, _, _, W.next nD s4 nr nrt tp hr hR hS'⟩⟩
        rw [W.rs.length, List.length_take]
        exact Nat.lt_of_le_of_lt (Nat.min_le_right _ _) (by rw [zl]; decide)
      · rintro H4 ⟨rs, tops, W⟩
        rw [List.take_of_length_le (by omega)] at W
        have rl : rs.length = 2 := by rw [W.rs.length, zl]
        refine ⟨_, rfl, D, rfl, ⟨_, SqL.of W.at_⟩, fun Ek nE => ?_⟩
        refine lc_list (K := K) (a := D) (xs := rs) (fun i H' => Same H4 H' ∧ ∃ ms, H' Ek = some (.lst ms) ∧ Paired (KpV H4 tops Ek H') ms (zs.take i)) ⟨same_upd nE, [], upd_same, .nil⟩ (fun i H' _ ⟨s', _⟩ => SqL.of (s' _ _ W.at_)) ?_ ?_
        · rintro i v H5 hi ⟨s5, ms, hE, hms⟩
          have il : i < zs.length := by rw [← W.rs.length]; exact (List.getElem?_eq_some_iff.mp hi).1
          have ez := List.getElem?_eq_getElem il
          obtain ⟨v', hv', r, vs, ds, e, h1, h2, h3, h4, h5⟩ := Paired.get? (i := i) W.rs ez
          obtain rfl : v' = v := Option.some.inj (hv'.symm.trans hi)
          subst e
          have et : zs.take (i + 1) = zs.take i ++ [zs[i]] := by rw [List.take_add_one, ez]; rfl
          refine ⟨rfl, _, rfl, r, rfl, ⟨_, SqL.of (s5 _ _ h1)⟩, fun M nM => ?_⟩
          have ex := W.top.ex
          refine lc_list (K := K) (a := r) (xs := vs) (fun j H' => Same H5 H' ∧ ∃ ks, H' M = some (.lst ks) ∧ Paired (Vd (fun a => a ∉ tops ∧ a ≠ Ek ∧ a ≠ M) 3 H') ks (ds.take j)) ⟨same_upd nM, [], upd_same, .nil⟩ (fun i H' _ ⟨s', _⟩ => SqL.of (s' _ _ (s5 _ _ h1))) ?_ ?_
          · rintro j u H6 hj ⟨s6, ks, hM, hks⟩
            have jl : j < ds.length := by rw [← h4.length]; exact (List.getElem?_eq_some_iff.mp hj).1
            have ej := List.getElem?_eq_getElem jl
            obtain ⟨u', hu', q6⟩ := Paired.get? (i := j) h4 ej
            obtain rfl : u' = u := Option.some.inj (hu'.symm.trans hj)
            have etj : ds.take (j + 1) = ds.take j ++ [ds[j]] := by rw [List.take_add_one, ej]; rfl
            have s46 := s5.trans s6
            have klen : ks.length < sizeLine := by
              rw [hks.length, List.length_take, h5.len]
              exact Nat.lt_of_le_of_lt (Nat.min_le_right _ _) (by decide)
            have g0 : ∀ a xs', (H2 a = none ∧ a ∉ tops ∧ a ≠ D) → H4 a = some (HO.lst xs') → a ∉ tops ∧ a ≠ Ek ∧ a ≠ M := fun a xs' i e => ⟨i.2.1, ne_of_none e nE, ne_of_none (s5 _ _ e) nM⟩
            have nM' : ¬ (M ∉ tops ∧ M ≠ Ek ∧ M ≠ M) := fun q => q.2.2 rfl
            rw [etj]
            rcases q6 with ⟨b, xs', ds', e1, k1, e2, g1, g2, g3⟩ | ⟨e1, f1⟩ | ⟨b, xs', ds', e1, e2, g1, g2, g3⟩
            · subst e1
              refine ⟨rfl, _, rfl, _, _, _, _, true, rfl, .ty "list", .base (.lst (s46 _ _ g1)), kit_ty (by decide +kernel), _, rfl, _, rfl, b, xs', rfl, .inl (SqL.of (s46 _ _ g1)), fun l nl => ?_⟩
              have sl := same_upd (o := HO.lst xs') nl
              refine ⟨ks, sl _ _ hM, klen, fun a o e => (upd_ne (ne_of_none e nM)).trans (sl _ _ (s6 _ _ e)), _, upd_same, vd_push hks sl (sl _ _ hM) nM' ?_⟩
              rw [e2]
              exact .inr (.inr ⟨l, xs', ds', rfl, rfl, ⟨fun m => ex _ m (same_bk s46 nl), (ne_of_none (s6 _ _ hE) nl).symm, (ne_of_none hM nl).symm⟩, upd_same, g2, Paired.mapP g3 fun _ _ z => Vd.keep (Upto.of (s46.trans sl)) (Vd.mono g0 z)⟩)
            · obtain ⟨ty, ht, hk⟩ := tp_no (K := K) (H := H6) (.inl f1)
              refine ⟨rfl, _, rfl, _, _, ty, _, false, rfl, .ty "list", ht, hk, _, rfl, _, rfl, ks, hM, klen, fun a o e => (upd_ne (ne_of_none e nM)).trans (s6 _ _ e), _, upd_same, vd_push hks (.refl _) hM nM' ?_⟩
              exact .inl ⟨e1, f1⟩
            · subst e1
              obtain ⟨ty, ht, hk⟩ := tp_no (K := K) (H := H6) (v := .ref b) (.inr ⟨b, xs', rfl, s46 _ _ g1⟩)
              refine ⟨rfl, _, rfl, _, _, ty, _, false, rfl, .ty "list", ht, hk, _, rfl, _, rfl, ks, hM, klen, fun a o e => (upd_ne (ne_of_none e nM)).trans (s6 _ _ e), _, upd_same, vd_push hks (.refl _) hM nM' ?_⟩
              rw [e2]
              exact .inr (.inl ⟨b, xs', ds', rfl, rfl, s46 _ _ g1, g2, Paired.mapP g3 fun _ _ z => Vd.keep (Upto.of s46) (Vd.mono g0 z)⟩)
          · rintro H6 ⟨s6, ks, hM, hks⟩
            rw [List.take_of_length_le (by rw [h4.length]; exact Nat.le_refl _)] at hks
            have hE6 := s6 _ _ hE
            have nEE : ¬ (Ek ∉ tops ∧ Ek ≠ Ek) := fun q => q.2 rfl
            have ME : M ≠ Ek := (ne_of_none hE nM).symm
            refine ⟨ms, hE6, ?_, fun a o e => (upd_ne (ne_of_none e nE)).trans (s6 _ _ (s5 _ _ e)), _, upd_same, ?_⟩
            · rw [hms.length, List.length_take]
              exact Nat.lt_of_le_of_lt (Nat.min_le_right _ _) (by rw [zl]; decide)
            · rw [et]
              refine pair_app2 (Paired.mapP hms fun _ _ q => q.upto ((Upto.of s6).trans (Upto.upd hE6 nEE)) ex) (.cons ⟨M, ks, ds, rfl, (upd_ne ME).trans hM, same_bk s5 nM, ME, Paired.mapP hks fun _ _ q => Vd.keep (Upto.upd hE6 nEE) (Vd.mono (fun a xs i _ => ⟨i.1, i.2.1⟩) q), h5⟩ .nil)
        · rintro H5 ⟨s5, ms, hE, hms⟩
          rw [List.take_of_length_le (by omega)] at hms
          have hD5 := s5 _ _ W.at_
          have Dt' : D ∉ tops := fun m => (W.top D m).2.1 rfl
          have ex := W.top.ex
          refine ⟨fun σ' H' => ∃ (y5 y7 : Option V), σ' = [some (.ref a), some (.ref d), none, some (.ref L), some (.ref D), y5, some (.ref Ek), y7, none, none, none, none, none, none, none] ∧ Upto (· ∉ tops) H5 H', ?_, ?_⟩
          · refine ⟨_, rfl, D, rfl, ⟨_, SqL.of hD5⟩, ?_⟩
            refine for_list (K := K) (a := D) (xs := rs) (fun i σ H' => ∃ (y5 y7 : Option V), σ = [some (.ref a), some (.ref d), none, some (.ref L), some (.ref D), y5, some (.ref Ek), y7, none, none, none, none, none, none, none] ∧ Upto (· ∉ tops) H5 H' ∧ ∀ a ∈ tops, ∃ xs, H' a = some (.lst xs) ∧ xs.length ≤ 1000 + 12 * i)
              ⟨_, _, rfl, .of (.refl _), fun a m => ?_⟩ (fun i σ H' _ ⟨_, _, _, u, _⟩ => SqL.of (u.lst hD5 Dt')) ?_ ?_
            · obtain ⟨_, _, xs', g1, g2⟩ := W.top a m
              exact ⟨xs', s5 _ _ g1, g2⟩
            · rintro i v σ H6 hi ⟨y5, y7, rfl, u6, t6⟩
              have il : i < zs.length := by rw [← W.rs.length]; exact (List.getElem?_eq_some_iff.mp hi).1
              have ez := List.getElem?_eq_getElem il
              obtain ⟨v', hv', r, vs, ds, e, h1, h2, h3, h4, h5⟩ := Paired.get? (i := i) W.rs ez
              obtain rfl : v' = v := Option.some.inj (hv'.symm.trans hi)
              subst e
              have hr5 := s5 _ _ h1
              refine ⟨_, rfl, r, rfl, ⟨_, SqL.of (u6.lst hr5 h2)⟩, ?_⟩
              refine for_list (K := K) (a := r) (xs := vs) (fun j σ H' => ∃ (y5 : Option V), σ = [some (.ref a), some (.ref d), none, some (.ref L), some (.ref D), y5, some (.ref Ek), some (.ref r), none, none, none, none, none, none, none] ∧ Upto (· ∉ tops) H5 H' ∧ ∀ a ∈ tops, ∃ xs, H' a = some (.lst xs) ∧ xs.length ≤ 1000 + 12 * i + j)
                ⟨_, rfl, u6, t6⟩ (fun i σ H' _ ⟨_, _, u, _⟩ => SqL.of (u.lst hr5 h2)) ?_ ?_
              · rintro j u σ H7 hj ⟨y5, rfl, u7, t7⟩
                have jl : j < ds.length := by rw [← h4.length]; exact (List.getElem?_eq_some_iff.mp hj).1
                have ej := List.getElem?_eq_getElem jl
                obtain ⟨u', hu', q6⟩ := Paired.get? (i := j) h4 ej
                obtain rfl : u' = u := Option.some.inj (hu'.symm.trans hj)
                have u47 := (Upto.of (ok := (· ∉ tops)) s5).trans u7
                have ds12 := h5.len
                rcases q6 with ⟨b, xs', ds', e1, k1, e2, g1, g2, g3⟩ | ⟨e1, f1⟩ | ⟨b, xs', ds', e1, e2, g1, g2, g3⟩
                · subst e1
                  obtain ⟨ys, hb, yl⟩ := t7 b k1
                  refine ⟨_, rfl, _, _, _, _, true, rfl, .ty "list", .base (.lst hb), kit_ty (by decide +kernel), _, rfl, _, rfl, .inl ⟨rfl, _, SqL.of hb⟩, b, ys, _, rfl, rfl, hb, ?_, ⟨_, rfl, u7.trans (Upto.upd hb fun q => q k1), fun a' m => ?_⟩⟩
                  · exact Nat.lt_of_le_of_lt (show ys.length ≤ 1100 by omega) (by decide)
                  · by_cases z : a' = b
                    · subst z
                      exact ⟨_, upd_same, by rw [List.length_append]; show ys.length + 1 ≤ _; omega⟩
                    · obtain ⟨xs'', q1, q2⟩ := t7 a' m
                      exact ⟨xs'', (upd_ne z).trans q1, by omega⟩
                · obtain ⟨ty, ht, hk⟩ := tp_no (K := K) (H := H7) (.inl f1)
                  exact ⟨_, rfl, _, _, ty, _, false, rfl, .ty "list", ht, hk, _, rfl, _, rfl, u7, fun a' m => (t7 a' m).imp fun _ q => ⟨q.1, by omega⟩⟩
                · subst e1
                  obtain ⟨ty, ht, hk⟩ := tp_no (K := K) (H := H7) (v := .ref b) (.inr ⟨b, xs', rfl, u47.tk _ _ g1⟩)
                  exact ⟨_, rfl, _, _, ty, _, false, rfl, .ty "list", ht, hk, _, rfl, _, rfl, u7, fun a' m => (t7 a' m).imp fun _ q => ⟨q.1, by omega⟩⟩
              · rintro σ H7 ⟨y5, rfl, u7, t7⟩
                exact ⟨_, _, rfl, u7, fun a' m => (t7 a' m).imp fun _ q => ⟨q.1, by
                  have := q.2
                  rw [h4.length, h5.len] at this
                  omega⟩⟩
            · rintro σ H6 ⟨y5, y7, rfl, u6, _⟩
              exact ⟨_, _, rfl, u6⟩
          · rintro σ H6 ⟨y5, y7, rfl, u6⟩
            have s25 := W.same.trans s5
            have nz : ∀ a, H2 a ≠ none → a ∉ tops := fun a n m => n (W.top a m).1
            have hN6 : Paired (NetV C H6) xs zs := Paired.mapP hP fun v z q => by
              obtain ⟨x, t, F, e, n, r⟩ := q
              exact ⟨x, t, F, e, n.upto ((Upto.of s25).trans u6) nz, r⟩
            have hL6 := u6.lst (s25 _ _ hL) (nz L (by rw [hL]; exact fun z => by cases z))
            have hE6 := u6.lst hE fun m => ex _ m nE
            have hK6 : Paired (KpV H4 tops Ek H6) ms zs := Paired.mapP hms fun _ _ q => q.upto (u6.mono fun a k => k.1) ex
            clear hms hE hP hP0
            have ml : ms.length = 2 := by rw [hK6.length, zl]
            refine ⟨fun σ' H' => ∃ (y2 : Option V), σ' = [some (.ref a), some (.ref d), y2, some (.ref L), some (.ref D), y5, some (.ref Ek), y7, none, none, none, none, none, none, none] ∧ Same H6 H', ?_, ?_⟩
            · refine ⟨(by show 4 ≤ sizeLine; decide), fun X nX => ⟨X, rfl, ⟨_, SqL.of upd_same⟩, ?_⟩⟩
              have sX := same_upd (o := HO.lst [.int 1, .int 0, .int 0, .int 1]) nX
              refine for_list (K := K) (a := X) (xs := [.int 1, .int 0, .int 0, .int 1]) (fun i σ H' => ∃ (y2 : Option V), σ = [some (.ref a), some (.ref d), y2, some (.ref L), some (.ref D), y5, some (.ref Ek), y7, none, none, none, none, none, none, none] ∧ Same (L2.upd H6 X (.lst [.int 1, .int 0, .int 0, .int 1])) H')
                ⟨_, rfl, .refl _⟩ (fun i σ H' _ ⟨_, _, u⟩ => SqL.of (u _ _ upd_same)) ?_ ?_
              · rintro i u σ H7 hi ⟨y2, rfl, s7⟩
                have s67 := sX.trans s7
                obtain ⟨kk, hk2, rfl⟩ : ∃ kk : Nat, kk < 2 ∧ u = .int (kk : Nat) := by
                  match i, hi with
                  | 0, hi => exact ⟨1, by decide, (Option.some.inj hi).symm⟩
                  | 1, hi => exact ⟨0, by decide, (Option.some.inj hi).symm⟩
                  | 2, hi => exact ⟨0, by decide, (Option.some.inj hi).symm⟩
                  | 3, hi => exact ⟨1, by decide, (Option.some.inj hi).symm⟩
                  | i + 4, hi => cases hi
                have ez := List.getElem?_eq_getElem (show kk < zs.length by omega)
                obtain ⟨v, hv, x, t, F, e, N, ok, h2, h4, ne⟩ := Paired.get? (i := kk) hN6 ez
                subst e
                obtain ⟨m, hm, km⟩ := Paired.get? (i := kk) hK6 ez
                refine ⟨_, rfl, _, rfl, L, xs, (kk : Int), _, rfl, rfl, SqL.of (s67 _ _ hL6), atI_nat hv, x, t, _, _, _, F, rfl, N.same s67, ok, h2, ne, fun H8 r vs ds tops' s8 nr nrt tp hr8 hP8 hR => ?_⟩
                have s68 := s67.trans s8
                refine ⟨_, rfl, _, rfl, Ek, ms, (kk : Int), m, rfl, rfl, SqL.of (s68 _ _ hE6), atI_nat hm, .ref r, m, rfl, (km.upto (Upto.of s68) ex).eqv ok hr8 hP8 hR, fun H9 s9 => ⟨true, rfl, ⟨_, rfl, s7.trans (s8.trans s9)⟩⟩⟩
              · rintro σ H7 ⟨y2, rfl, s7⟩
                exact ⟨_, rfl, sX.trans s7⟩
            · rintro σ H7 ⟨y2, rfl, s7⟩
              obtain ⟨z0, z1, rfl⟩ : ∃ z0 z1, zs = [z0, z1] := by
                match zs, zl with
                | [z0, z1], _ => exact ⟨z0, z1, rfl⟩
              obtain ⟨v0, hv0, x, t, F, e, N, ok, h2, h4, ne⟩ := Paired.get? (i := 0) hN6 rfl
              subst e
              replace N := N.same s7
              have hL7 := s7 _ _ hL6
              obtain ⟨p, h, os⟩ := z0
              simp only at N ok h2 h4 ne
              clear hN6 hK6 hE6 hL6 u6 W s25 nz s7 hL hD5 D2 nLd hod D1
              have nF := ok.len
              have p30 := ok.p30; have h10 := ok.h10
              obtain ⟨o, os', eos⟩ := List.exists_cons_of_ne_nil ne
              have ho : os[0]? = some o := by rw [eos]; rfl
              have olen : 0 < os.length := by rw [eos]; exact Nat.succ_pos _
              refine ⟨_, rfl, L, xs, 0, .ref x, rfl, rfl, SqL.of hL7, atI_nat (j := 0) hv0, fun o1 dx1 no1 ndx1 nex1 => ?_⟩
              have sA := (same_upd (o := HO.own o1) ndx1).trans (same_upd (o := HO.ins O dx1 []) ((upd_ne (o := HO.own o1) (fun z => nex1 z.symm)).trans no1))
              refine ⟨o1, dx1, x, t, p, h, os, F, H7, rfl, N, sA, no1, upd_same, fun H8 sn8 s8 A1 => ⟨rfl, ?_⟩⟩
              refine ⟨_, rfl, L, xs, 0, .ref x, rfl, rfl, SqL.of (s8 _ _ hL7), atI_nat (j := 0) hv0, fun o2 dx2 no2 ndx2 nex2 => ?_⟩
              have sB := (same_upd (o := HO.own o2) ndx2).trans (same_upd (o := HO.ins O dx2 []) ((upd_ne (o := HO.own o2) (fun z => nex2 z.symm)).trans no2))
              refine ⟨o2, dx2, x, t, p, h, os, F, H8, rfl, N.same s8, sB, no2, upd_same, fun H9 sn9 s9 A2 => ⟨rfl, ?_⟩⟩
              refine ⟨(by show 2 ≤ sizeLine; decide), fun ol nol => ?_⟩
              have sC := same_upd (o := HO.lst [.ref o1, .ref o2]) nol
              have A1' := A1.same (s9.trans sC)
              have A2' := A2.same sC
              obtain ⟨da, fa, ua, va, ha1, Ra, _⟩ := id A1'
              refine ⟨_, rfl, ol, _, 0, .ref o1, rfl, rfl, SqL.of upd_same, atI_nat (j := 0) rfl, o1, da, fa, rfl, ha1, Ra.no _ (by decide +kernel) (by decide +kernel) (by decide +kernel) (by decide +kernel), o1, 0, _, rfl, A1', Nat.zero_le _, olen, nF, fun H10 v10 od10 b10 _ _ A10 => ?_⟩
              have oF1 : o1 ∉ F := N.new no1
              have n21 : o2 ≠ o1 := by
                obtain ⟨_, _, _, _, z1, _⟩ := id A1
                exact (ne_of_none z1 no2).symm
              have k10 := tk_ins b10 ha1
              have A2b := A2'.but b10 k10 n21 oF1
              have N10 := (N.same ((s8.trans s9).trans sC)).but b10 k10 oF1
              have hol10 := b10 ol _ (ne_of (h := upd_same) ha1 (by intro z; cases z)) upd_same
              have hL10 := b10 L _ (ne_of ((s8.trans (s9.trans sC)) _ _ hL7) ha1 (by intro z; cases z)) ((s8.trans (s9.trans sC)) _ _ hL7)
              refine ⟨_, rfl, L, xs, 0, .ref x, rfl, rfl, SqL.of hL10, atI_nat (j := 0) hv0, fun w1 dw1 nw1 ndw1 nexw1 => ?_⟩
              have sD := (same_upd (o := HO.own w1) ndw1).trans (same_upd (o := HO.ins W dw1 []) ((upd_ne (o := HO.own w1) (fun z => nexw1 z.symm)).trans nw1))
              refine ⟨w1, dw1, x, t, p, h, 0, os, F, o, H10, rfl, N10, ok, ho, sD, nw1, upd_same, fun H11 ww1 cs1 r1 a1 s11 nr1 na1 W1' => ⟨rfl, ?_⟩⟩
              refine ⟨_, rfl, L, xs, 0, .ref x, rfl, rfl, SqL.of (s11 _ _ hL10), atI_nat (j := 0) hv0, fun w2 dw2 nw2 ndw2 nexw2 => ?_⟩
              have sE := (same_upd (o := HO.own w2) ndw2).trans (same_upd (o := HO.ins W dw2 []) ((upd_ne (o := HO.own w2) (fun z => nexw2 z.symm)).trans nw2))
              refine ⟨w2, dw2, x, t, p, h, 0, os, F, o, H11, rfl, N10.same s11, ok, ho, sE, nw2, upd_same, fun H12 ww2 cs2 r2 a2 s12 nr2 na2 W2' => ⟨rfl, ?_⟩⟩
              refine ⟨(by show 2 ≤ sizeLine; decide), fun wl nwl => ?_⟩
              have sF := same_upd (o := HO.lst [.ref w1, .ref w2]) nwl
              have n21w : w2 ≠ w1 := by
                obtain ⟨_, z1⟩ := W1'.ins
                exact (ne_of_none z1 nw2).symm
              have W1 : WAt W C _ w1 ⟨p, h, os, 0, o, F⟩ (candsL h o.s) [] := ⟨_, W1'.same (s12.trans sF), rfl, rfl, rfl⟩
              have W2 : WAt W C _ w2 ⟨p, h, os, 0, o, F⟩ (candsL h o.s) [] := ⟨_, W2'.same sF, rfl, rfl, rfl⟩
              have sG := (s11.trans s12).trans sF
              obtain ⟨dz, za, zb, zc, zd, hw1⟩ := W1.ins
              obtain ⟨c0, cr, ec⟩ := List.exists_cons_of_ne_nil (List.ne_nil_of_mem (truth_in ok ho))
              have Rl : (candsL h o.s).length ≤ 100 := Nat.le_trans candsL_len (by omega)
              refine ⟨_, rfl, wl, _, 0, .ref w1, rfl, rfl, SqL.of upd_same, atI_nat (j := 0) rfl, w1, dz, _, rfl, hw1, use_cands W1 fun H14 r14 vs14 s14 n14 h14 p14 => ?_⟩
              obtain ⟨v14, hv14, u0, e0, hu0⟩ := Paired.get? (i := 0) p14 (by rw [ec]; rfl)
              subst e0
              refine ⟨r14, _, 0, .ref u0, rfl, rfl, SqL.of h14, atI_nat (j := 0) hv14, u0, _, 0, .int c0.1, rfl, rfl, SqT.of hu0, atI_nat (j := 0) rfl, ?_⟩
              refine ⟨_, rfl, wl, _, 0, .ref w1, rfl, rfl, SqL.of (s14 _ _ upd_same), atI_nat (j := 0) rfl, w1, dz, _, rfl, s14 _ _ hw1, wf_no (by decide +kernel) (by decide +kernel) (by decide +kernel) (by decide +kernel), ?_⟩
              refine tC2_of ?_
              refine use_ress (hs := 0) (dy := 3) (W1.same s14) Rl (show 0 < h by omega) (by decide) fun H15 r15 ws15 l15 s15 n15 h15 p15 ro15 ll15 => ?_
              have m0 : (⟨p, h, os, 0, o, F⟩ : Wp).res 0 3 c0 ∈ l15 := (ro15.mem _).mpr (List.mem_map.mpr ⟨c0, by rw [ec]; exact List.mem_cons_self, rfl⟩)
              obtain ⟨k0, lr, el⟩ := List.exists_cons_of_ne_nil (List.ne_nil_of_mem m0)
              have k0m : k0 ∈ (candsL h o.s).map ((⟨p, h, os, 0, o, F⟩ : Wp).res 0 3) := (ro15.mem _).mp (by rw [el]; exact List.mem_cons_self)
              obtain ⟨c1, hc1, ek0⟩ := List.mem_map.mp k0m
              have rne : (⟨p, h, os, 0, o, F⟩ : Wp).rem (candsL h o.s) [((0, 3), k0)] ≠ [] := List.ne_nil_of_mem (a := c1) (List.mem_filter.mpr ⟨hc1, by simp [Wp.ok, ek0]⟩)
              have k0h : ∀ c, k0 = some c → c.1 < h := fun c e => dst_house (cand_ok ok ho hc1) (show 0 < h by omega) (ek0.trans e)
              obtain ⟨y0, hy0, hyo⟩ := Paired.get? (i := 0) p15 (by rw [el]; rfl)
              refine ⟨r15, ws15, 0, y0, rfl, rfl, SqL.of h15, atI_nat (j := 0) hy0, _, _, _, rfl, ?_⟩
              have s1415 := s14.trans s15
              refine ⟨_, rfl, wl, _, 0, .ref w1, rfl, rfl, SqL.of (s1415 _ _ upd_same), atI_nat (j := 0) rfl, w1, dz, _, rfl, s1415 _ _ hw1, wf_no (by decide +kernel) (by decide +kernel) (by decide +kernel) (by decide +kernel), _, rfl, _, rfl, ?_⟩
              refine nil_of ?_
              refine use_see (hs := 0) (dy := 3) (W1.same s1415) hyo (show 0 < h by omega) (by decide) k0h rne Rl (by decide) fun H16 b16 W16 => ?_
              have k16 := b16.tki (s1415 _ _ hw1)
              have W2b := (W2.same s1415).other b16 n21w (W1.same s1415)
              have hwl16 := b16 wl _ (ne_of (s1415 _ _ upd_same) (s1415 _ _ hw1) (by intro z; cases z)) (s1415 _ _ upd_same)
              have sH := sG.trans s1415
              have hol16 := b16 ol _ (ne_of (sH _ _ hol10) (s1415 _ _ hw1) (by intro z; cases z)) (sH _ _ hol10)
              have hL16 := b16 L _ (ne_of (sH _ _ hL10) (s1415 _ _ hw1) (by intro z; cases z)) (sH _ _ hL10)
              have N16 := (N10.same sH).wat b16 (W1.same s1415)
              have nwF : w1 ∉ F := N10.new nw1
              have n2w : o2 ≠ w1 := by
                obtain ⟨_, _, _, _, z1, _⟩ := id A2b
                exact ne_of_none z1 nw1
              have A16 := (A2b.same sH).but b16 k16 n2w nwF
              obtain ⟨dy, ya, yb, yc, yd, hw16⟩ := W16.ins
              refine ⟨_, rfl, wl, _, 0, .ref w1, rfl, rfl, SqL.of hwl16, atI_nat (j := 0) rfl, w1, dy, _, rfl, hw16, use_hist W16 fun H17 r17 vs17 s17 n17 h17 p17 => ?_⟩
              have l17 : vs17.length = 1 := by rw [p17.length]; rfl
              refine ⟨.inl ⟨rfl, _, SqL.of h17⟩, r17, vs17, _, rfl, rfl, h17, by rw [l17]; decide, ?_⟩
              have s18 : Same H16 (L2.upd H17 r17 (.lst (vs17 ++ [.int 0]))) := fun a o e => (upd_ne (ne_of_none e n17)).trans (s17 _ _ e)
              refine ⟨_, rfl, wl, _, 0, .ref w1, rfl, rfl, SqL.of (s18 _ _ hwl16), atI_nat (j := 0) rfl, w1, dy, _, rfl, s18 _ _ hw16, use_hist (W16.same s18) fun H19 r19 vs19 s19 n19 h19 p19 => ?_⟩
              have l19 : vs19.length = 1 := by rw [p19.length]; rfl
              refine ⟨r19, vs19, rfl, .inl (SqL.of h19), ?_⟩
              rw [l19]
              refine ⟨rfl, false, by rw [show (!decide (V.int ((1 : Nat) : Int) = V.int 1)) = false from nself], ?_⟩
              have sI := s18.trans s19
              obtain ⟨d2, f2, u2, va2, ha2, R2', _⟩ := id (A16.same sI)
              obtain ⟨dxx, flx, asx, _, hxx, ⟨ts, hts, hP⟩, _⟩ := id (N16.same sI)
              refine ⟨_, rfl, ol, _, 1, .ref o2, rfl, rfl, SqL.of (sI _ _ hol16), atI_nat (j := 1) rfl, o2, d2, f2, rfl, ha2, o2, _, rfl, A16.same sI, fun t' ht' => ?_⟩
              have ht2 : OrdsTup H19 t' os := ht'
              refine ⟨_, rfl, L, xs, 0, .ref x, rfl, rfl, SqL.of (sI _ _ hL16), atI_nat (j := 0) hv0, x, C, dxx, _, _, rfl, hxx, T.cl, T.nO, nf_or, ?_⟩
              obtain ⟨tw, htw, hPw⟩ := ht2
              refine ⟨_, _, .tup (SqT.of htw) (ods_dp hPw), .tup (SqT.of hts) (ods_dp hP), ods_shaped os, ods_shaped os, _, rfl, ?_⟩
              rw [PySem.SeqAt.eqv_refl _ (PySem.SeqAt.canLay_of_shaped (ods_shaped os))]
              obtain ⟨dv, yw, yx, yy, yz, hw2⟩ := (W2b.same sI).ins
              refine ⟨_, rfl, wl, _, 1, .ref w2, rfl, rfl, SqL.of (sI _ _ hwl16), atI_nat (j := 1) rfl, w2, dv, _, rfl, hw2, use_hist (W2b.same sI) fun H20 r20 vs20 s20 n20 h20 p20 => ?_⟩
              cases p20
              refine ⟨(by show 0 ≤ sizeLine; decide), fun em nem => ?_⟩
              have sJ := s20.trans (same_upd (o := HO.lst []) nem)
              refine ⟨.list [], .list [], .lst (SqL.of ((same_upd nem) _ _ h20)) .nil, .lst (SqL.of upd_same) .nil, by decide +kernel, by decide +kernel, true, by rw [show PyData.eqv (.list []) (.list []) = true from by decide +kernel], ?_⟩
              obtain ⟨vo, hvo, uo, eo, huo⟩ := Paired.get? (i := 0) hP ho
              subst eo
              refine ⟨_, rfl, _, rfl, L, xs, 0, .ref x, rfl, rfl, SqL.of (sJ _ _ (sI _ _ hL16)), atI_nat (j := 0) hv0, x, C, dxx, _, _, rfl, sJ _ _ hxx, T.cl, T.nO, nf_or, t, ts, 0, .ref uo, rfl, rfl, SqT.of (sJ _ _ hts), atI_nat (j := 0) hvo, uo, _, 0, .int o.s, rfl, rfl, SqT.of (sJ _ _ huo), atI_nat (j := 0) rfl, rfl, ?_⟩
              have cne : c0.1 ≠ o.s := candsL_ne (n := h) (by rw [ec]; exact List.mem_cons_self)
              rw [show (!decide (V.int (c0.1 : Nat) = V.int (o.s : Nat))) = true by rw [decide_eq_false fun z => cne (by injection z with z; omega)]; rfl]
              exact q _
end
set_option maxHeartbeats 0 in
theorem all_mk {l : PySem.W.OpenLaw} {w : World} {K : PySem.W.Frag} {h : Heap} {mg : Str → Option Value} {fa : Addr} (X : K.In h) (G : h.Ns mainGlobals mg) (hfa : mg "law" = some (.ref fa))
    {C_Net : Addr}
    {C_Office : Addr}
    {C_Watcher : Addr}
    {f1 : Addr} {od1 an1 : Option Addr} {sl1 : Array (Option Value)} {oc1 kV1 dc1 pm1 cd1 ct1 : Value}
    {f2 : Addr} {od2 an2 : Option Addr} {sl2 : Array (Option Value)} {oc2 kV2 dc2 pm2 cd2 ct2 : Value}
    {f3 : Addr} {od3 an3 : Option Addr} {sl3 : Array (Option Value)} {oc3 kV3 dc3 pm3 cd3 ct3 : Value}
    {f4 : Addr} {od4 an4 : Option Addr} {sl4 : Array (Option Value)} {oc4 kV4 dc4 pm4 cd4 ct4 : Value}
    {f5 : Addr} {od5 an5 : Option Addr} {sl5 : Array (Option Value)} {oc5 kV5 dc5 pm5 cd5 ct5 : Value}
    {f6 : Addr} {od6 an6 : Option Addr} {sl6 : Array (Option Value)} {oc6 kV6 dc6 pm6 cd6 ct6 : Value}
    {f7 : Addr} {od7 an7 : Option Addr} {sl7 : Array (Option Value)} {oc7 kV7 dc7 pm7 cd7 ct7 : Value}
    {f8 : Addr} {od8 an8 : Option Addr} {sl8 : Array (Option Value)} {oc8 kV8 dc8 pm8 cd8 ct8 : Value}
    {f9 : Addr} {od9 an9 : Option Addr} {sl9 : Array (Option Value)} {oc9 kV9 dc9 pm9 cd9 ct9 : Value}
    {f10 : Addr} {od10 an10 : Option Addr} {sl10 : Array (Option Value)} {oc10 kV10 dc10 pm10 cd10 ct10 : Value}
    {f11 : Addr} {od11 an11 : Option Addr} {sl11 : Array (Option Value)} {oc11 kV11 dc11 pm11 cd11 ct11 : Value}
    {f12 : Addr} {od12 an12 : Option Addr} {sl12 : Array (Option Value)} {oc12 kV12 dc12 pm12 cd12 ct12 : Value}
    {f13 : Addr} {od13 an13 : Option Addr} {sl13 : Array (Option Value)} {oc13 kV13 dc13 pm13 cd13 ct13 : Value}
    {f14 : Addr} {od14 an14 : Option Addr} {sl14 : Array (Option Value)} {oc14 kV14 dc14 pm14 cd14 ct14 : Value}
    {f15 : Addr} {od15 an15 : Option Addr} {sl15 : Array (Option Value)} {oc15 kV15 dc15 pm15 cd15 ct15 : Value}
    {f16 : Addr} {od16 an16 : Option Addr} {sl16 : Array (Option Value)} {oc16 kV16 dc16 pm16 cd16 ct16 : Value}
    {f17 : Addr} {od17 an17 : Option Addr} {sl17 : Array (Option Value)} {oc17 kV17 dc17 pm17 cd17 ct17 : Value}
    {f18 : Addr} {od18 an18 : Option Addr} {sl18 : Array (Option Value)} {oc18 kV18 dc18 pm18 cd18 ct18 : Value}
    {f19 : Addr} {od19 an19 : Option Addr} {sl19 : Array (Option Value)} {oc19 kV19 dc19 pm19 cd19 ct19 : Value}
    {f20 : Addr} {od20 an20 : Option Addr} {sl20 : Array (Option Value)} {oc20 kV20 dc20 pm20 cd20 ct20 : Value}
    {f21 : Addr} {od21 an21 : Option Addr} {sl21 : Array (Option Value)} {oc21 kV21 dc21 pm21 cd21 ct21 : Value}
    {f22 : Addr} {od22 an22 : Option Addr} {sl22 : Array (Option Value)} {oc22 kV22 dc22 pm22 cd22 ct22 : Value}
    {f23 : Addr} {od23 an23 : Option Addr} {sl23 : Array (Option Value)} {oc23 kV23 dc23 pm23 cd23 ct23 : Value}
    {f24 : Addr} {od24 an24 : Option Addr} {sl24 : Array (Option Value)} {oc24 kV24 dc24 pm24 cd24 ct24 : Value}
    {f25 : Addr} {od25 an25 : Option Addr} {sl25 : Array (Option Value)} {oc25 kV25 dc25 pm25 cd25 ct25 : Value}
    {f26 : Addr} {od26 an26 : Option Addr} {sl26 : Array (Option Value)} {oc26 kV26 dc26 pm26 cd26 ct26 : Value}
    {f27 : Addr} {od27 an27 : Option Addr} {sl27 : Array (Option Value)} {oc27 kV27 dc27 pm27 cd27 ct27 : Value}
    {f28 : Addr} {od28 an28 : Option Addr} {sl28 : Array (Option Value)} {oc28 kV28 dc28 pm28 cd28 ct28 : Value}
    {f29 : Addr} {od29 an29 : Option Addr} {sl29 : Array (Option Value)} {oc29 kV29 dc29 pm29 cd29 ct29 : Value}
    {f30 : Addr} {od30 an30 : Option Addr} {sl30 : Array (Option Value)} {oc30 kV30 dc30 pm30 cd30 ct30 : Value}
    {f31 : Addr} {od31 an31 : Option Addr} {sl31 : Array (Option Value)} {oc31 kV31 dc31 pm31 cd31 ct31 : Value}
    {f32 : Addr} {od32 an32 : Option Addr} {sl32 : Array (Option Value)} {oc32 kV32 dc32 pm32 cd32 ct32 : Value}
    {f33 : Addr} {od33 an33 : Option Addr} {sl33 : Array (Option Value)} {oc33 kV33 dc33 pm33 cd33 ct33 : Value}
    {f34 : Addr} {od34 an34 : Option Addr} {sl34 : Array (Option Value)} {oc34 kV34 dc34 pm34 cd34 ct34 : Value}
    {f35 : Addr} {od35 an35 : Option Addr} {sl35 : Array (Option Value)} {oc35 kV35 dc35 pm35 cd35 ct35 : Value}
    {f36 : Addr} {od36 an36 : Option Addr} {sl36 : Array (Option Value)} {oc36 kV36 dc36 pm36 cd36 ct36 : Value}
    {f37 : Addr} {od37 an37 : Option Addr} {sl37 : Array (Option Value)} {oc37 kV37 dc37 pm37 cd37 ct37 : Value}
    {f38 : Addr} {od38 an38 : Option Addr} {sl38 : Array (Option Value)} {oc38 kV38 dc38 pm38 cd38 ct38 : Value}
    {f39 : Addr} {od39 an39 : Option Addr} {sl39 : Array (Option Value)} {oc39 kV39 dc39 pm39 cd39 ct39 : Value}
    {f40 : Addr} {od40 an40 : Option Addr} {sl40 : Array (Option Value)} {oc40 kV40 dc40 pm40 cd40 ct40 : Value}
    {f41 : Addr} {od41 an41 : Option Addr} {sl41 : Array (Option Value)} {oc41 kV41 dc41 pm41 cd41 ct41 : Value}
    {f42 : Addr} {od42 an42 : Option Addr} {sl42 : Array (Option Value)} {oc42 kV42 dc42 pm42 cd42 ct42 : Value}
    {f43 : Addr} {od43 an43 : Option Addr} {sl43 : Array (Option Value)} {oc43 kV43 dc43 pm43 cd43 ct43 : Value}
    {f44 : Addr} {od44 an44 : Option Addr} {sl44 : Array (Option Value)} {oc44 kV44 dc44 pm44 cd44 ct44 : Value}
    {p44 : Addr} {pr44 : List Value}
    {f45 : Addr} {od45 an45 : Option Addr} {sl45 : Array (Option Value)} {oc45 kV45 dc45 pm45 cd45 ct45 : Value}
    {p45 : Addr} {pr45 : List Value}
    {f46 : Addr} {od46 an46 : Option Addr} {sl46 : Array (Option Value)} {oc46 kV46 dc46 pm46 cd46 ct46 : Value}
    {f47 : Addr} {od47 an47 : Option Addr} {sl47 : Array (Option Value)} {oc47 kV47 dc47 pm47 cd47 ct47 : Value}
    {p47 : Addr} {pr47 : List Value}
    {f48 : Addr} {od48 an48 : Option Addr} {sl48 : Array (Option Value)} {oc48 kV48 dc48 pm48 cd48 ct48 : Value}
    {f49 : Addr} {od49 an49 : Option Addr} {sl49 : Array (Option Value)} {oc49 kV49 dc49 pm49 cd49 ct49 : Value}
    {f50 : Addr} {od50 an50 : Option Addr} {sl50 : Array (Option Value)} {oc50 kV50 dc50 pm50 cd50 ct50 : Value}
    {f51 : Addr} {od51 an51 : Option Addr} {sl51 : Array (Option Value)} {oc51 kV51 dc51 pm51 cd51 ct51 : Value}
    {p51 : Addr} {pr51 : List Value}
    {f52 : Addr} {od52 an52 : Option Addr} {sl52 : Array (Option Value)} {oc52 kV52 dc52 pm52 cd52 ct52 : Value}
    {p52 : Addr} {pr52 : List Value}
    {f53 : Addr} {od53 an53 : Option Addr} {sl53 : Array (Option Value)} {oc53 kV53 dc53 pm53 cd53 ct53 : Value}
    {f54 : Addr} {od54 an54 : Option Addr} {sl54 : Array (Option Value)} {oc54 kV54 dc54 pm54 cd54 ct54 : Value}
    {f55 : Addr} {od55 an55 : Option Addr} {sl55 : Array (Option Value)} {oc55 kV55 dc55 pm55 cd55 ct55 : Value}
    {f56 : Addr} {od56 an56 : Option Addr} {sl56 : Array (Option Value)} {oc56 kV56 dc56 pm56 cd56 ct56 : Value}
    {f57 : Addr} {od57 an57 : Option Addr} {sl57 : Array (Option Value)} {oc57 kV57 dc57 pm57 cd57 ct57 : Value}
    {tkLAST_DAY : Tok}
    {tkLONGEST_PERIOD : Tok}
    {tkMOST_HOUSES : Tok}
    {tkMOST_ORDERS : Tok}
    {tkLONGEST_DELAY : Tok}
    {tkFIRST_BYTE : Tok}
    (aCNet : PySem.W.nsIn K mainGlobals "Net" = some (some (.ref C_Net)))
    (aCOffice : PySem.W.nsIn K mainGlobals "Office" = some (some (.ref C_Office)))
    (aCWatcher : PySem.W.nsIn K mainGlobals "Watcher" = some (some (.ref C_Watcher)))
    (a1 : PySem.W.nsIn K mainGlobals "is_integer" = some (some (.ref f1)))
    (l1 : K.lookup f1 = some ⟨oc1, od1, .func (PySem.W.fnOf "is_integer" "is_integer" (defArgs s_is_integer) (defBody s_is_integer) (defScope s_is_integer) .none kV1 dc1 pm1 an1 cd1 ct1), sl1⟩)
    (c1 : PySem.W.codeIn K cd1 "is_integer" = true)
    (k1 : PySem.W.keepIn K (.ref f1) = true)
    (a2 : PySem.W.nsIn K mainGlobals "is_within" = some (some (.ref f2)))
    (l2 : K.lookup f2 = some ⟨oc2, od2, .func (PySem.W.fnOf "is_within" "is_within" (defArgs s_is_within) (defBody s_is_within) (defScope s_is_within) .none kV2 dc2 pm2 an2 cd2 ct2), sl2⟩)
    (c2 : PySem.W.codeIn K cd2 "is_within" = true)
    (k2 : PySem.W.keepIn K (.ref f2) = true)
    (a3 : PySem.W.nsIn K mainGlobals "is_order" = some (some (.ref f3)))
    (l3 : K.lookup f3 = some ⟨oc3, od3, .func (PySem.W.fnOf "is_order" "is_order" (defArgs s_is_order) (defBody s_is_order) (defScope s_is_order) .none kV3 dc3 pm3 an3 cd3 ct3), sl3⟩)
    (c3 : PySem.W.codeIn K cd3 "is_order" = true)
    (k3 : PySem.W.keepIn K (.ref f3) = true)
    (a4 : PySem.W.nsIn K mainGlobals "check_orders" = some (some (.ref f4)))
    (l4 : K.lookup f4 = some ⟨oc4, od4, .func (PySem.W.fnOf "check_orders" "check_orders" (defArgs s_check_orders) (defBody s_check_orders) (defScope s_check_orders) .none kV4 dc4 pm4 an4 cd4 ct4), sl4⟩)
    (c4 : PySem.W.codeIn K cd4 "check_orders" = true)
    (k4 : PySem.W.keepIn K (.ref f4) = true)
    (a5 : PySem.W.nsIn K mainGlobals "find_followed" = some (some (.ref f5)))
    (l5 : K.lookup f5 = some ⟨oc5, od5, .func (PySem.W.fnOf "find_followed" "find_followed" (defArgs s_find_followed) (defBody s_find_followed) (defScope s_find_followed) .none kV5 dc5 pm5 an5 cd5 ct5), sl5⟩)
    (c5 : PySem.W.codeIn K cd5 "find_followed" = true)
    (k5 : PySem.W.keepIn K (.ref f5) = true)
    (a6 : PySem.W.nsIn K mainGlobals "check_house" = some (some (.ref f6)))
    (l6 : K.lookup f6 = some ⟨oc6, od6, .func (PySem.W.fnOf "check_house" "check_house" (defArgs s_check_house) (defBody s_check_house) (defScope s_check_house) .none kV6 dc6 pm6 an6 cd6 ct6), sl6⟩)
    (c6 : PySem.W.codeIn K cd6 "check_house" = true)
    (k6 : PySem.W.keepIn K (.ref f6) = true)
    (a7 : PySem.W.nsIn K mainGlobals "check_day" = some (some (.ref f7)))
    (l7 : K.lookup f7 = some ⟨oc7, od7, .func (PySem.W.fnOf "check_day" "check_day" (defArgs s_check_day) (defBody s_check_day) (defScope s_check_day) .none kV7 dc7 pm7 an7 cd7 ct7), sl7⟩)
    (c7 : PySem.W.codeIn K cd7 "check_day" = true)
    (k7 : PySem.W.keepIn K (.ref f7) = true)
    (a8 : PySem.W.nsIn K mainGlobals "check_letter" = some (some (.ref f8)))
    (l8 : K.lookup f8 = some ⟨oc8, od8, .func (PySem.W.fnOf "check_letter" "check_letter" (defArgs s_check_letter) (defBody s_check_letter) (defScope s_check_letter) .none kV8 dc8 pm8 an8 cd8 ct8), sl8⟩)
    (c8 : PySem.W.codeIn K cd8 "check_letter" = true)
    (k8 : PySem.W.keepIn K (.ref f8) = true)
    (a9 : PySem.W.nsIn K mainGlobals "_law_random" = some (some (.ref f9)))
    (l9 : K.lookup f9 = some ⟨oc9, od9, .func (PySem.W.fnOf "_law_random" "_law_random" (defArgs s_l_random) (defBody s_l_random) (defScope s_l_random) .none kV9 dc9 pm9 an9 cd9 ct9), sl9⟩)
    (c9 : PySem.W.codeIn K cd9 "_law_random" = true)
    (k9 : PySem.W.keepIn K (.ref f9) = true)
    (a10 : PySem.W.nsIn K mainGlobals "_law_below" = some (some (.ref f10)))
    (l10 : K.lookup f10 = some ⟨oc10, od10, .func (PySem.W.fnOf "_law_below" "_law_below" (defArgs s_l_below) (defBody s_l_below) (defScope s_l_below) .none kV10 dc10 pm10 an10 cd10 ct10), sl10⟩)
    (c10 : PySem.W.codeIn K cd10 "_law_below" = true)
    (k10 : PySem.W.keepIn K (.ref f10) = true)
    (a11 : PySem.W.nsIn K mainGlobals "_law_order" = some (some (.ref f11)))
    (l11 : K.lookup f11 = some ⟨oc11, od11, .func (PySem.W.fnOf "_law_order" "_law_order" (defArgs s_l_order) (defBody s_l_order) (defScope s_l_order) .none kV11 dc11 pm11 an11 cd11 ct11), sl11⟩)
    (c11 : PySem.W.codeIn K cd11 "_law_order" = true)
    (k11 : PySem.W.keepIn K (.ref f11) = true)
    (a12 : PySem.W.nsIn K mainGlobals "_law_small" = some (some (.ref f12)))
    (l12 : K.lookup f12 = some ⟨oc12, od12, .func (PySem.W.fnOf "_law_small" "_law_small" (defArgs s_l_small) (defBody s_l_small) (defScope s_l_small) .none kV12 dc12 pm12 an12 cd12 ct12), sl12⟩)
    (c12 : PySem.W.codeIn K cd12 "_law_small" = true)
    (k12 : PySem.W.keepIn K (.ref f12) = true)
    (a13 : PySem.W.nsIn K mainGlobals "_law_net" = some (some (.ref f13)))
    (l13 : K.lookup f13 = some ⟨oc13, od13, .func (PySem.W.fnOf "_law_net" "_law_net" (defArgs s_l_net) (defBody s_l_net) (defScope s_l_net) .none kV13 dc13 pm13 an13 cd13 ct13), sl13⟩)
    (c13 : PySem.W.codeIn K cd13 "_law_net" = true)
    (k13 : PySem.W.keepIn K (.ref f13) = true)
    (a14 : PySem.W.nsIn K mainGlobals "_law_equal" = some (some (.ref f14)))
    (l14 : K.lookup f14 = some ⟨oc14, od14, .func (PySem.W.fnOf "_law_equal" "_law_equal" (defArgs s_l_equal) (defBody s_l_equal) (defScope s_l_equal) .none kV14 dc14 pm14 an14 cd14 ct14), sl14⟩)
    (c14 : PySem.W.codeIn K cd14 "_law_equal" = true)
    (k14 : PySem.W.keepIn K (.ref f14) = true)
    (a15 : PySem.W.nsIn K mainGlobals "follow" = some (some (.ref f15)))
    (l15 : K.lookup f15 = some ⟨oc15, od15, .func (PySem.W.fnOf "follow" "follow" (defArgs s_follow) (defBody s_follow) (defScope s_follow) .none kV15 dc15 pm15 an15 cd15 ct15), sl15⟩)
    (c15 : PySem.W.codeIn K cd15 "follow" = true)
    (k15 : PySem.W.keepIn K (.ref f15) = true)
    (a16 : PySem.W.nsIn K mainGlobals "destination" = some (some (.ref f16)))
    (l16 : K.lookup f16 = some ⟨oc16, od16, .func (PySem.W.fnOf "destination" "destination" (defArgs s_destination) (defBody s_destination) (defScope s_destination) .none kV16 dc16 pm16 an16 cd16 ct16), sl16⟩)
    (c16 : PySem.W.codeIn K cd16 "destination" = true)
    (k16 : PySem.W.keepIn K (.ref f16) = true)
    (a17 : PySem.W.nsIn K mainGlobals "day_sets" = some (some (.ref f17)))
    (l17 : K.lookup f17 = some ⟨oc17, od17, .func (PySem.W.fnOf "day_sets" "day_sets" (defArgs s_day_sets) (defBody s_day_sets) (defScope s_day_sets) .none kV17 dc17 pm17 an17 cd17 ct17), sl17⟩)
    (c17 : PySem.W.codeIn K cd17 "day_sets" = true)
    (k17 : PySem.W.keepIn K (.ref f17) = true)
    (a18 : PySem.W.nsIn K mainGlobals "last_stop" = some (some (.ref f18)))
    (l18 : K.lookup f18 = some ⟨oc18, od18, .func (PySem.W.fnOf "last_stop" "last_stop" (defArgs s_last_stop) (defBody s_last_stop) (defScope s_last_stop) .none kV18 dc18 pm18 an18 cd18 ct18), sl18⟩)
    (c18 : PySem.W.codeIn K cd18 "last_stop" = true)
    (k18 : PySem.W.keepIn K (.ref f18) = true)
    (a19 : PySem.W.nsIn K mainGlobals "where" = some (some (.ref f19)))
    (l19 : K.lookup f19 = some ⟨oc19, od19, .func (PySem.W.fnOf "where" "where" (defArgs s_where) (defBody s_where) (defScope s_where) .none kV19 dc19 pm19 an19 cd19 ct19), sl19⟩)
    (c19 : PySem.W.codeIn K cd19 "where" = true)
    (k19 : PySem.W.keepIn K (.ref f19) = true)
    (a20 : PySem.W.nsIn K mainGlobals "letters" = some (some (.ref f20)))
    (l20 : K.lookup f20 = some ⟨oc20, od20, .func (PySem.W.fnOf "letters" "letters" (defArgs s_letters) (defBody s_letters) (defScope s_letters) .none kV20 dc20 pm20 an20 cd20 ct20), sl20⟩)
    (c20 : PySem.W.codeIn K cd20 "letters" = true)
    (k20 : PySem.W.keepIn K (.ref f20) = true)
    (a21 : PySem.W.nsIn K mainGlobals "day_stops" = some (some (.ref f21)))
    (l21 : K.lookup f21 = some ⟨oc21, od21, .func (PySem.W.fnOf "day_stops" "day_stops" (defArgs s_day_stops) (defBody s_day_stops) (defScope s_day_stops) .none kV21 dc21 pm21 an21 cd21 ct21), sl21⟩)
    (c21 : PySem.W.codeIn K cd21 "day_stops" = true)
    (k21 : PySem.W.keepIn K (.ref f21) = true)
    (a22 : PySem.W.nsIn K mainGlobals "slowest" = some (some (.ref f22)))
    (l22 : K.lookup f22 = some ⟨oc22, od22, .func (PySem.W.fnOf "slowest" "slowest" (defArgs s_slowest) (defBody s_slowest) (defScope s_slowest) .none kV22 dc22 pm22 an22 cd22 ct22), sl22⟩)
    (c22 : PySem.W.codeIn K cd22 "slowest" = true)
    (k22 : PySem.W.keepIn K (.ref f22) = true)
    (a23 : PySem.W.nsIn K mainGlobals "loops" = some (some (.ref f23)))
    (l23 : K.lookup f23 = some ⟨oc23, od23, .func (PySem.W.fnOf "loops" "loops" (defArgs s_loops) (defBody s_loops) (defScope s_loops) .none kV23 dc23 pm23 an23 cd23 ct23), sl23⟩)
    (c23 : PySem.W.codeIn K cd23 "loops" = true)
    (k23 : PySem.W.keepIn K (.ref f23) = true)
    (a24 : PySem.W.nsIn K mainGlobals "add_ways" = some (some (.ref f24)))
    (l24 : K.lookup f24 = some ⟨oc24, od24, .func (PySem.W.fnOf "add_ways" "add_ways" (defArgs s_add_ways) (defBody s_add_ways) (defScope s_add_ways) .none kV24 dc24 pm24 an24 cd24 ct24), sl24⟩)
    (c24 : PySem.W.codeIn K cd24 "add_ways" = true)
    (k24 : PySem.W.keepIn K (.ref f24) = true)
    (a25 : PySem.W.nsIn K mainGlobals "find_ways" = some (some (.ref f25)))
    (l25 : K.lookup f25 = some ⟨oc25, od25, .func (PySem.W.fnOf "find_ways" "find_ways" (defArgs s_find_ways) (defBody s_find_ways) (defScope s_find_ways) .none kV25 dc25 pm25 an25 cd25 ct25), sl25⟩)
    (c25 : PySem.W.codeIn K cd25 "find_ways" = true)
    (k25 : PySem.W.keepIn K (.ref f25) = true)
    (a26 : PySem.W.nsIn K mainGlobals "ways_to" = some (some (.ref f26)))
    (l26 : K.lookup f26 = some ⟨oc26, od26, .func (PySem.W.fnOf "ways_to" "ways_to" (defArgs s_ways_to) (defBody s_ways_to) (defScope s_ways_to) .none kV26 dc26 pm26 an26 cd26 ct26), sl26⟩)
    (c26 : PySem.W.codeIn K cd26 "ways_to" = true)
    (k26 : PySem.W.keepIn K (.ref f26) = true)
    (a27 : PySem.W.nsIn K mainGlobals "senders" = some (some (.ref f27)))
    (l27 : K.lookup f27 = some ⟨oc27, od27, .func (PySem.W.fnOf "senders" "senders" (defArgs s_senders) (defBody s_senders) (defScope s_senders) .none kV27 dc27 pm27 an27 cd27 ct27), sl27⟩)
    (c27 : PySem.W.codeIn K cd27 "senders" = true)
    (k27 : PySem.W.keepIn K (.ref f27) = true)
    (a28 : PySem.W.nsIn K mainGlobals "count_chasing" = some (some (.ref f28)))
    (l28 : K.lookup f28 = some ⟨oc28, od28, .func (PySem.W.fnOf "count_chasing" "count_chasing" (defArgs s_count_chasing) (defBody s_count_chasing) (defScope s_count_chasing) .none kV28 dc28 pm28 an28 cd28 ct28), sl28⟩)
    (c28 : PySem.W.codeIn K cd28 "count_chasing" = true)
    (k28 : PySem.W.keepIn K (.ref f28) = true)
    (a29 : PySem.W.nsIn K mainGlobals "without_order" = some (some (.ref f29)))
    (l29 : K.lookup f29 = some ⟨oc29, od29, .func (PySem.W.fnOf "without_order" "without_order" (defArgs s_without_order) (defBody s_without_order) (defScope s_without_order) .none kV29 dc29 pm29 an29 cd29 ct29), sl29⟩)
    (c29 : PySem.W.codeIn K cd29 "without_order" = true)
    (k29 : PySem.W.keepIn K (.ref f29) = true)
    (a30 : PySem.W.nsIn K mainGlobals "without" = some (some (.ref f30)))
    (l30 : K.lookup f30 = some ⟨oc30, od30, .func (PySem.W.fnOf "without" "without" (defArgs s_without) (defBody s_without) (defScope s_without) .none kV30 dc30 pm30 an30 cd30 ct30), sl30⟩)
    (c30 : PySem.W.codeIn K cd30 "without" = true)
    (k30 : PySem.W.keepIn K (.ref f30) = true)
    (a31 : PySem.W.nsIn K mainGlobals "harmful_orders" = some (some (.ref f31)))
    (l31 : K.lookup f31 = some ⟨oc31, od31, .func (PySem.W.fnOf "harmful_orders" "harmful_orders" (defArgs s_harmful_orders) (defBody s_harmful_orders) (defScope s_harmful_orders) .none kV31 dc31 pm31 an31 cd31 ct31), sl31⟩)
    (c31 : PySem.W.codeIn K cd31 "harmful_orders" = true)
    (k31 : PySem.W.keepIn K (.ref f31) = true)
    (a32 : PySem.W.nsIn K mainGlobals "result_on" = some (some (.ref f32)))
    (l32 : K.lookup f32 = some ⟨oc32, od32, .func (PySem.W.fnOf "result_on" "result_on" (defArgs s_result_on) (defBody s_result_on) (defScope s_result_on) .none kV32 dc32 pm32 an32 cd32 ct32), sl32⟩)
    (c32 : PySem.W.codeIn K cd32 "result_on" = true)
    (k32 : PySem.W.keepIn K (.ref f32) = true)
    (a33 : PySem.W.nsIn K mainGlobals "checksum" = some (some (.ref f33)))
    (l33 : K.lookup f33 = some ⟨oc33, od33, .func (PySem.W.fnOf "checksum" "checksum" (defArgs s_checksum) (defBody s_checksum) (defScope s_checksum) .none kV33 dc33 pm33 an33 cd33 ct33), sl33⟩)
    (c33 : PySem.W.codeIn K cd33 "checksum" = true)
    (k33 : PySem.W.keepIn K (.ref f33) = true)
    (a34 : PySem.W.nsIn K mainGlobals "encode" = some (some (.ref f34)))
    (l34 : K.lookup f34 = some ⟨oc34, od34, .func (PySem.W.fnOf "encode" "encode" (defArgs s_encode) (defBody s_encode) (defScope s_encode) .none kV34 dc34 pm34 an34 cd34 ct34), sl34⟩)
    (c34 : PySem.W.codeIn K cd34 "encode" = true)
    (k34 : PySem.W.keepIn K (.ref f34) = true)
    (a35 : PySem.W.nsIn K mainGlobals "check_index" = some (some (.ref f35)))
    (l35 : K.lookup f35 = some ⟨oc35, od35, .func (PySem.W.fnOf "check_index" "check_index" (defArgs s_check_index) (defBody s_check_index) (defScope s_check_index) .none kV35 dc35 pm35 an35 cd35 ct35), sl35⟩)
    (c35 : PySem.W.codeIn K cd35 "check_index" = true)
    (k35 : PySem.W.keepIn K (.ref f35) = true)
    (a36 : PySem.W.nsIn K mainGlobals "with_order" = some (some (.ref f36)))
    (l36 : K.lookup f36 = some ⟨oc36, od36, .func (PySem.W.fnOf "with_order" "with_order" (defArgs s_with_order) (defBody s_with_order) (defScope s_with_order) .none kV36 dc36 pm36 an36 cd36 ct36), sl36⟩)
    (c36 : PySem.W.codeIn K cd36 "with_order" = true)
    (k36 : PySem.W.keepIn K (.ref f36) = true)
    (a37 : PySem.W.nsIn K mainGlobals "find_candidates" = some (some (.ref f37)))
    (l37 : K.lookup f37 = some ⟨oc37, od37, .func (PySem.W.fnOf "find_candidates" "find_candidates" (defArgs s_find_candidates) (defBody s_find_candidates) (defScope s_find_candidates) .none kV37 dc37 pm37 an37 cd37 ct37), sl37⟩)
    (c37 : PySem.W.codeIn K cd37 "find_candidates" = true)
    (k37 : PySem.W.keepIn K (.ref f37) = true)
    (a38 : PySem.W.nsIn K mainGlobals "check_result" = some (some (.ref f38)))
    (l38 : K.lookup f38 = some ⟨oc38, od38, .func (PySem.W.fnOf "check_result" "check_result" (defArgs s_check_result) (defBody s_check_result) (defScope s_check_result) .none kV38 dc38 pm38 an38 cd38 ct38), sl38⟩)
    (c38 : PySem.W.codeIn K cd38 "check_result" = true)
    (k38 : PySem.W.keepIn K (.ref f38) = true)
    (a39 : PySem.W.nsIn K mainGlobals "_law_results" = some (some (.ref f39)))
    (l39 : K.lookup f39 = some ⟨oc39, od39, .func (PySem.W.fnOf "_law_results" "_law_results" (defArgs s_l_results) (defBody s_l_results) (defScope s_l_results) .none kV39 dc39 pm39 an39 cd39 ct39), sl39⟩)
    (c39 : PySem.W.codeIn K cd39 "_law_results" = true)
    (k39 : PySem.W.keepIn K (.ref f39) = true)
    (a40 : PySem.W.nsIn K mainGlobals "law" = some (some (.ref f40)))
    (l40 : K.lookup f40 = some ⟨oc40, od40, .func (PySem.W.fnOf "law" "law" (defArgs s_law) (defBody s_law) (defScope s_law) .none kV40 dc40 pm40 an40 cd40 ct40), sl40⟩)
    (c40 : PySem.W.codeIn K cd40 "law" = true)
    (k40 : PySem.W.keepIn K (.ref f40) = true)
    (a41 : PySem.W.findIn K (.ref C_Net) "__init__" = some (some (.ref f41)))
    (i41 : PySem.W.isFn K (.ref f41) = true)
    (l41 : K.lookup f41 = some ⟨oc41, od41, .func (PySem.W.fnOf "__init__" "Net.__init__" (defArgs s_Net_init) (defBody s_Net_init) (defScope s_Net_init) .none kV41 dc41 pm41 an41 cd41 ct41), sl41⟩)
    (c41 : PySem.W.codeIn K cd41 "Net.__init__" = true)
    (k41 : PySem.W.keepIn K (.ref f41) = true)
    (a42 : PySem.W.findIn K (.ref C_Net) "stop_after" = some (some (.ref f42)))
    (i42 : PySem.W.isFn K (.ref f42) = true)
    (l42 : K.lookup f42 = some ⟨oc42, od42, .func (PySem.W.fnOf "stop_after" "Net.stop_after" (defArgs s_Net_stop_after) (defBody s_Net_stop_after) (defScope s_Net_stop_after) .none kV42 dc42 pm42 an42 cd42 ct42), sl42⟩)
    (c42 : PySem.W.codeIn K cd42 "Net.stop_after" = true)
    (k42 : PySem.W.keepIn K (.ref f42) = true)
    (a43 : PySem.W.findIn K (.ref C_Net) "route" = some (some (.ref f43)))
    (i43 : PySem.W.isFn K (.ref f43) = true)
    (l43 : K.lookup f43 = some ⟨oc43, od43, .func (PySem.W.fnOf "route" "Net.route" (defArgs s_Net_route) (defBody s_Net_route) (defScope s_Net_route) .none kV43 dc43 pm43 an43 cd43 ct43), sl43⟩)
    (c43 : PySem.W.codeIn K cd43 "Net.route" = true)
    (k43 : PySem.W.keepIn K (.ref f43) = true)
    (a44 : PySem.W.findIn K (.ref C_Net) "idle_orders" = some (some (.ref p44)))
    (pg44 : PySem.W.specialIn K (.ref p44) "__get__" = some (some (.builtin "property.__get__")))
    (pt44 : PySem.W.takesIn K (.ref p44) = some true)
    (pc44 : PySem.W.recIn K p44 "property" = some (.ref f44 :: pr44))
    (l44 : K.lookup f44 = some ⟨oc44, od44, .func (PySem.W.fnOf "idle_orders" "Net.idle_orders" (defArgs s_Net_idle_orders) (defBody s_Net_idle_orders) (defScope s_Net_idle_orders) .none kV44 dc44 pm44 an44 cd44 ct44), sl44⟩)
    (c44 : PySem.W.codeIn K cd44 "Net.idle_orders" = true)
    (k44 : PySem.W.keepIn K (.ref f44) = true)
    (a45 : PySem.W.findIn K (.ref C_Net) "text" = some (some (.ref p45)))
    (pg45 : PySem.W.specialIn K (.ref p45) "__get__" = some (some (.builtin "property.__get__")))
    (pt45 : PySem.W.takesIn K (.ref p45) = some true)
    (pc45 : PySem.W.recIn K p45 "property" = some (.ref f45 :: pr45))
    (l45 : K.lookup f45 = some ⟨oc45, od45, .func (PySem.W.fnOf "text" "Net.text" (defArgs s_Net_text) (defBody s_Net_text) (defScope s_Net_text) .none kV45 dc45 pm45 an45 cd45 ct45), sl45⟩)
    (c45 : PySem.W.codeIn K cd45 "Net.text" = true)
    (k45 : PySem.W.keepIn K (.ref f45) = true)
    (a46 : PySem.W.findIn K (.ref C_Office) "__init__" = some (some (.ref f46)))
    (i46 : PySem.W.isFn K (.ref f46) = true)
    (l46 : K.lookup f46 = some ⟨oc46, od46, .func (PySem.W.fnOf "__init__" "Office.__init__" (defArgs s_Office_init) (defBody s_Office_init) (defScope s_Office_init) .none kV46 dc46 pm46 an46 cd46 ct46), sl46⟩)
    (c46 : PySem.W.codeIn K cd46 "Office.__init__" = true)
    (k46 : PySem.W.keepIn K (.ref f46) = true)
    (a47 : PySem.W.findIn K (.ref C_Office) "present_orders" = some (some (.ref p47)))
    (pg47 : PySem.W.specialIn K (.ref p47) "__get__" = some (some (.builtin "property.__get__")))
    (pt47 : PySem.W.takesIn K (.ref p47) = some true)
    (pc47 : PySem.W.recIn K p47 "property" = some (.ref f47 :: pr47))
    (l47 : K.lookup f47 = some ⟨oc47, od47, .func (PySem.W.fnOf "present_orders" "Office.present_orders" (defArgs s_Office_present_orders) (defBody s_Office_present_orders) (defScope s_Office_present_orders) .none kV47 dc47 pm47 an47 cd47 ct47), sl47⟩)
    (c47 : PySem.W.codeIn K cd47 "Office.present_orders" = true)
    (k47 : PySem.W.keepIn K (.ref f47) = true)
    (a48 : PySem.W.findIn K (.ref C_Office) "take_step" = some (some (.ref f48)))
    (i48 : PySem.W.isFn K (.ref f48) = true)
    (l48 : K.lookup f48 = some ⟨oc48, od48, .func (PySem.W.fnOf "take_step" "Office.take_step" (defArgs s_Office_take_step) (defBody s_Office_take_step) (defScope s_Office_take_step) .none kV48 dc48 pm48 an48 cd48 ct48), sl48⟩)
    (c48 : PySem.W.codeIn K cd48 "Office.take_step" = true)
    (k48 : PySem.W.keepIn K (.ref f48) = true)
    (a49 : PySem.W.findIn K (.ref C_Office) "cancel" = some (some (.ref f49)))
    (i49 : PySem.W.isFn K (.ref f49) = true)
    (l49 : K.lookup f49 = some ⟨oc49, od49, .func (PySem.W.fnOf "cancel" "Office.cancel" (defArgs s_Office_cancel) (defBody s_Office_cancel) (defScope s_Office_cancel) .none kV49 dc49 pm49 an49 cd49 ct49), sl49⟩)
    (c49 : PySem.W.codeIn K cd49 "Office.cancel" = true)
    (k49 : PySem.W.keepIn K (.ref f49) = true)
    (a50 : PySem.W.findIn K (.ref C_Watcher) "__init__" = some (some (.ref f50)))
    (i50 : PySem.W.isFn K (.ref f50) = true)
    (l50 : K.lookup f50 = some ⟨oc50, od50, .func (PySem.W.fnOf "__init__" "Watcher.__init__" (defArgs s_Watcher_init) (defBody s_Watcher_init) (defScope s_Watcher_init) .none kV50 dc50 pm50 an50 cd50 ct50), sl50⟩)
    (c50 : PySem.W.codeIn K cd50 "Watcher.__init__" = true)
    (k50 : PySem.W.keepIn K (.ref f50) = true)
    (a51 : PySem.W.findIn K (.ref C_Watcher) "candidates" = some (some (.ref p51)))
    (pg51 : PySem.W.specialIn K (.ref p51) "__get__" = some (some (.builtin "property.__get__")))
    (pt51 : PySem.W.takesIn K (.ref p51) = some true)
    (pc51 : PySem.W.recIn K p51 "property" = some (.ref f51 :: pr51))
    (l51 : K.lookup f51 = some ⟨oc51, od51, .func (PySem.W.fnOf "candidates" "Watcher.candidates" (defArgs s_Watcher_candidates) (defBody s_Watcher_candidates) (defScope s_Watcher_candidates) .none kV51 dc51 pm51 an51 cd51 ct51), sl51⟩)
    (c51 : PySem.W.codeIn K cd51 "Watcher.candidates" = true)
    (k51 : PySem.W.keepIn K (.ref f51) = true)
    (a52 : PySem.W.findIn K (.ref C_Watcher) "history" = some (some (.ref p52)))
    (pg52 : PySem.W.specialIn K (.ref p52) "__get__" = some (some (.builtin "property.__get__")))
    (pt52 : PySem.W.takesIn K (.ref p52) = some true)
    (pc52 : PySem.W.recIn K p52 "property" = some (.ref f52 :: pr52))
    (l52 : K.lookup f52 = some ⟨oc52, od52, .func (PySem.W.fnOf "history" "Watcher.history" (defArgs s_Watcher_history) (defBody s_Watcher_history) (defScope s_Watcher_history) .none kV52 dc52 pm52 an52 cd52 ct52), sl52⟩)
    (c52 : PySem.W.codeIn K cd52 "Watcher.history" = true)
    (k52 : PySem.W.keepIn K (.ref f52) = true)
    (a53 : PySem.W.findIn K (.ref C_Watcher) "result_with" = some (some (.ref f53)))
    (i53 : PySem.W.isFn K (.ref f53) = true)
    (l53 : K.lookup f53 = some ⟨oc53, od53, .func (PySem.W.fnOf "result_with" "Watcher.result_with" (defArgs s_Watcher_result_with) (defBody s_Watcher_result_with) (defScope s_Watcher_result_with) .none kV53 dc53 pm53 an53 cd53 ct53), sl53⟩)
    (c53 : PySem.W.codeIn K cd53 "Watcher.result_with" = true)
    (k53 : PySem.W.keepIn K (.ref f53) = true)
    (a54 : PySem.W.findIn K (.ref C_Watcher) "count_results" = some (some (.ref f54)))
    (i54 : PySem.W.isFn K (.ref f54) = true)
    (l54 : K.lookup f54 = some ⟨oc54, od54, .func (PySem.W.fnOf "count_results" "Watcher.count_results" (defArgs s_Watcher_count_results) (defBody s_Watcher_count_results) (defScope s_Watcher_count_results) .none kV54 dc54 pm54 an54 cd54 ct54), sl54⟩)
    (c54 : PySem.W.codeIn K cd54 "Watcher.count_results" = true)
    (k54 : PySem.W.keepIn K (.ref f54) = true)
    (a55 : PySem.W.findIn K (.ref C_Watcher) "results" = some (some (.ref f55)))
    (i55 : PySem.W.isFn K (.ref f55) = true)
    (l55 : K.lookup f55 = some ⟨oc55, od55, .func (PySem.W.fnOf "results" "Watcher.results" (defArgs s_Watcher_results) (defBody s_Watcher_results) (defScope s_Watcher_results) .none kV55 dc55 pm55 an55 cd55 ct55), sl55⟩)
    (c55 : PySem.W.codeIn K cd55 "Watcher.results" = true)
    (k55 : PySem.W.keepIn K (.ref f55) = true)
    (a56 : PySem.W.findIn K (.ref C_Watcher) "see_all" = some (some (.ref f56)))
    (i56 : PySem.W.isFn K (.ref f56) = true)
    (l56 : K.lookup f56 = some ⟨oc56, od56, .func (PySem.W.fnOf "see_all" "Watcher.see_all" (defArgs s_Watcher_see_all) (defBody s_Watcher_see_all) (defScope s_Watcher_see_all) .none kV56 dc56 pm56 an56 cd56 ct56), sl56⟩)
    (c56 : PySem.W.codeIn K cd56 "Watcher.see_all" = true)
    (k56 : PySem.W.keepIn K (.ref f56) = true)
    (a57 : PySem.W.findIn K (.ref C_Watcher) "see" = some (some (.ref f57)))
    (i57 : PySem.W.isFn K (.ref f57) = true)
    (l57 : K.lookup f57 = some ⟨oc57, od57, .func (PySem.W.fnOf "see" "Watcher.see" (defArgs s_Watcher_see) (defBody s_Watcher_see) (defScope s_Watcher_see) .none kV57 dc57 pm57 an57 cd57 ct57), sl57⟩)
    (c57 : PySem.W.codeIn K cd57 "Watcher.see" = true)
    (k57 : PySem.W.keepIn K (.ref f57) = true)
    (pgNet : PySem.W.plainGet K C_Net Str.empty = true)
    (hdNet : PySem.W.hasDictIn K C_Net = true)
    (poNet : PySem.W.plainOver K C_Net = true)
    (saNet : PySem.W.findIn K (.ref C_Net) "__setattr__" = some (some (.builtin "object.__setattr__")))
    (mkNet : PySem.W.makesIn K C_Net = true)
    (kcNet : PySem.W.keepIn K (.ref C_Net) = true)
    (nNet_period : PySem.W.findIn K (.ref C_Net) "period" = some none)
    (nNet_houses : PySem.W.findIn K (.ref C_Net) "houses" = some none)
    (nNet_orders : PySem.W.findIn K (.ref C_Net) "orders" = some none)
    (nNet_followed : PySem.W.findIn K (.ref C_Net) "followed" = some none)
    (pgOffice : PySem.W.plainGet K C_Office Str.empty = true)
    (hdOffice : PySem.W.hasDictIn K C_Office = true)
    (poOffice : PySem.W.plainOver K C_Office = true)
    (saOffice : PySem.W.findIn K (.ref C_Office) "__setattr__" = some (some (.builtin "object.__setattr__")))
    (mkOffice : PySem.W.makesIn K C_Office = true)
    (kcOffice : PySem.W.keepIn K (.ref C_Office) = true)
    (nOffice_net : PySem.W.findIn K (.ref C_Office) "net" = some none)
    (nOffice_steps : PySem.W.findIn K (.ref C_Office) "steps" = some none)
    (nOffice_effective : PySem.W.findIn K (.ref C_Office) "effective" = some none)
    (nOffice_snapshots : PySem.W.findIn K (.ref C_Office) "snapshots" = some none)
    (pgWatcher : PySem.W.plainGet K C_Watcher Str.empty = true)
    (hdWatcher : PySem.W.hasDictIn K C_Watcher = true)
    (poWatcher : PySem.W.plainOver K C_Watcher = true)
    (saWatcher : PySem.W.findIn K (.ref C_Watcher) "__setattr__" = some (some (.builtin "object.__setattr__")))
    (mkWatcher : PySem.W.makesIn K C_Watcher = true)
    (kcWatcher : PySem.W.keepIn K (.ref C_Watcher) = true)
    (nWatcher_net : PySem.W.findIn K (.ref C_Watcher) "net" = some none)
    (nWatcher_ways : PySem.W.findIn K (.ref C_Watcher) "ways" = some none)
    (nWatcher_remaining : PySem.W.findIn K (.ref C_Watcher) "remaining" = some none)
    (nWatcher_accepted : PySem.W.findIn K (.ref C_Watcher) "accepted" = some none)
    (vLAST_DAY : PySem.W.nsIn K mainGlobals "LAST_DAY" = some (some (.int 1000000000000000000 tkLAST_DAY)))
    (vLONGEST_PERIOD : PySem.W.nsIn K mainGlobals "LONGEST_PERIOD" = some (some (.int 30 tkLONGEST_PERIOD)))
    (vMOST_HOUSES : PySem.W.nsIn K mainGlobals "MOST_HOUSES" = some (some (.int 10 tkMOST_HOUSES)))
    (vMOST_ORDERS : PySem.W.nsIn K mainGlobals "MOST_ORDERS" = some (some (.int 20 tkMOST_ORDERS)))
    (vLONGEST_DELAY : PySem.W.nsIn K mainGlobals "LONGEST_DELAY" = some (some (.int 9 tkLONGEST_DELAY)))
    (vFIRST_BYTE : PySem.W.nsIn K mainGlobals "FIRST_BYTE" = some (some (.int 78 tkFIRST_BYTE)))
    (zlen : PySem.W.nsIn K mainGlobals "len" = some none)
    (zrange : PySem.W.nsIn K mainGlobals "range" = some none)
    (zisinstance : PySem.W.nsIn K mainGlobals "isinstance" = some none)
    (zint : PySem.W.nsIn K mainGlobals "int" = some none)
    (zbool : PySem.W.nsIn K mainGlobals "bool" = some none)
    (zstr : PySem.W.nsIn K mainGlobals "str" = some none)
    (ztuple : PySem.W.nsIn K mainGlobals "tuple" = some none)
    (zlist : PySem.W.nsIn K mainGlobals "list" = some none)
    (zall : PySem.W.nsIn K mainGlobals "all" = some none)
    (zabs : PySem.W.nsIn K mainGlobals "abs" = some none)
    (zenumerate : PySem.W.nsIn K mainGlobals "enumerate" = some none)
    (zmin : PySem.W.nsIn K mainGlobals "min" = some none)
    (zsorted : PySem.W.nsIn K mainGlobals "sorted" = some none)
    (zsum : PySem.W.nsIn K mainGlobals "sum" = some none)
    : ∃ fd : FuncData, (∀ (s : Shared) (v : Value), BindsTo s fd ⟨[v], []⟩ [("_law_script", v)]) ∧ ∀ base : Heap, K.In base → base.Ns mainGlobals mg → FnOk l.prog w K mg base CX0 11 fa fd ["_law_script"] (spLaw K) := by
  have e := hfa.symm.trans (PySem.W.mg_of X G a40)
  cases e
  have G_Net := PySem.W.mg_of X G aCNet
  have T_Net : NetT K C_Net := ⟨⟨pgNet, hdNet, poNet, saNet⟩, nNet_period, nNet_houses, nNet_orders, nNet_followed⟩
  have G_Office := PySem.W.mg_of X G aCOffice
  have T_Office : OffT K C_Office := ⟨⟨pgOffice, hdOffice, poOffice, saOffice⟩, nOffice_net, nOffice_steps, nOffice_effective, nOffice_snapshots⟩
  have G_Watcher := PySem.W.mg_of X G aCWatcher
  have T_Watcher : WatT K C_Watcher := ⟨⟨pgWatcher, hdWatcher, poWatcher, saWatcher⟩, nWatcher_net, nWatcher_ways, nWatcher_remaining, nWatcher_accepted⟩
  have K_LAST_DAY : ∃ t, mg "LAST_DAY" = some (.int 1000000000000000000 t) := ⟨_, PySem.W.mg_of X G vLAST_DAY⟩
  have K_LONGEST_PERIOD : ∃ t, mg "LONGEST_PERIOD" = some (.int 30 t) := ⟨_, PySem.W.mg_of X G vLONGEST_PERIOD⟩
  have K_MOST_HOUSES : ∃ t, mg "MOST_HOUSES" = some (.int 10 t) := ⟨_, PySem.W.mg_of X G vMOST_HOUSES⟩
  have K_MOST_ORDERS : ∃ t, mg "MOST_ORDERS" = some (.int 20 t) := ⟨_, PySem.W.mg_of X G vMOST_ORDERS⟩
  have K_LONGEST_DELAY : ∃ t, mg "LONGEST_DELAY" = some (.int 9 t) := ⟨_, PySem.W.mg_of X G vLONGEST_DELAY⟩
  have K_FIRST_BYTE : ∃ t, mg "FIRST_BYTE" = some (.int 78 t) := ⟨_, PySem.W.mg_of X G vFIRST_BYTE⟩
  have B : Blt mg := ⟨PySem.W.mg_none_of X G zlen, PySem.W.mg_none_of X G zrange, PySem.W.mg_none_of X G zisinstance, PySem.W.mg_none_of X G zint, PySem.W.mg_none_of X G zbool, PySem.W.mg_none_of X G zstr, PySem.W.mg_none_of X G ztuple, PySem.W.mg_none_of X G zlist, PySem.W.mg_none_of X G zall, PySem.W.mg_none_of X G zabs, PySem.W.mg_none_of X G zenumerate⟩
  have Z_min : mg "min" = none := PySem.W.mg_none_of X G zmin
  have Z_sorted : mg "sorted" = none := PySem.W.mg_none_of X G zsorted
  have Z_sum : mg "sum" = none := PySem.W.mg_none_of X G zsum
  have G_is_integer := PySem.W.mg_of X G a1
  have F_is_integer := fun_mk (st := s_is_integer) l1 c1 k1
  have B_is_integer := F_is_integer.binds (ps := P_is_integer) fun _ _ _ _ _ _ us hl => match us, hl with | [_], _ => rfl
  have G_is_within := PySem.W.mg_of X G a2
  have F_is_within := fun_mk (st := s_is_within) l2 c2 k2
  have B_is_within := F_is_within.binds (ps := P_is_within) fun _ _ _ _ _ _ us hl => match us, hl with | [_, _, _], _ => rfl
  have G_is_order := PySem.W.mg_of X G a3
  have F_is_order := fun_mk (st := s_is_order) l3 c3 k3
  have B_is_order := F_is_order.binds (ps := P_is_order) fun _ _ _ _ _ _ us hl => match us, hl with | [_, _, _], _ => rfl
  have G_check_orders := PySem.W.mg_of X G a4
  have F_check_orders := fun_mk (st := s_check_orders) l4 c4 k4
  have B_check_orders := F_check_orders.binds (ps := P_check_orders) fun _ _ _ _ _ _ us hl => match us, hl with | [_, _, _], _ => rfl
  have G_find_followed := PySem.W.mg_of X G a5
  have F_find_followed := fun_mk (st := s_find_followed) l5 c5 k5
  have B_find_followed := F_find_followed.binds (ps := P_find_followed) fun _ _ _ _ _ _ us hl => match us, hl with | [_, _, _], _ => rfl
  have G_check_house := PySem.W.mg_of X G a6
  have F_check_house := fun_mk (st := s_check_house) l6 c6 k6
  have B_check_house := F_check_house.binds (ps := P_check_house) fun _ _ _ _ _ _ us hl => match us, hl with | [_, _], _ => rfl
  have G_check_day := PySem.W.mg_of X G a7
  have F_check_day := fun_mk (st := s_check_day) l7 c7 k7
  have B_check_day := F_check_day.binds (ps := P_check_day) fun _ _ _ _ _ _ us hl => match us, hl with | [_], _ => rfl
  have G_check_letter := PySem.W.mg_of X G a8
  have F_check_letter := fun_mk (st := s_check_letter) l8 c8 k8
  have B_check_letter := F_check_letter.binds (ps := P_check_letter) fun _ _ _ _ _ _ us hl => match us, hl with | [_, _, _], _ => rfl
  have G_l_random := PySem.W.mg_of X G a9
  have F_l_random := fun_mk (st := s_l_random) l9 c9 k9
  have B_l_random := F_l_random.binds (ps := P_l_random) fun _ _ _ _ _ _ us hl => match us, hl with | [_, _], _ => rfl
  have G_l_below := PySem.W.mg_of X G a10
  have F_l_below := fun_mk (st := s_l_below) l10 c10 k10
  have B_l_below := F_l_below.binds (ps := P_l_below) fun _ _ _ _ _ _ us hl => match us, hl with | [_, _], _ => rfl
  have G_l_order := PySem.W.mg_of X G a11
  have F_l_order := fun_mk (st := s_l_order) l11 c11 k11
  have B_l_order := F_l_order.binds (ps := P_l_order) fun _ _ _ _ _ _ us hl => match us, hl with | [_, _, _], _ => rfl
  have G_l_small := PySem.W.mg_of X G a12
  have F_l_small := fun_mk (st := s_l_small) l12 c12 k12
  have B_l_small := F_l_small.binds (ps := P_l_small) fun _ _ _ _ _ _ us hl => match us, hl with | [_], _ => rfl
  have G_l_net := PySem.W.mg_of X G a13
  have F_l_net := fun_mk (st := s_l_net) l13 c13 k13
  have B_l_net := F_l_net.binds (ps := P_l_net) fun _ _ _ _ _ _ us hl => match us, hl with | [_], _ => rfl
  have G_l_equal := PySem.W.mg_of X G a14
  have F_l_equal := fun_mk (st := s_l_equal) l14 c14 k14
  have B_l_equal := F_l_equal.binds (ps := P_l_equal) fun _ _ _ _ _ _ us hl => match us, hl with | [_, _], _ => rfl
  have G_follow := PySem.W.mg_of X G a15
  have F_follow := fun_mk (st := s_follow) l15 c15 k15
  have B_follow := F_follow.binds (ps := P_follow) fun _ _ _ _ _ _ us hl => match us, hl with | [_, _, _], _ => rfl
  have G_destination := PySem.W.mg_of X G a16
  have F_destination := fun_mk (st := s_destination) l16 c16 k16
  have B_destination := F_destination.binds (ps := P_destination) fun _ _ _ _ _ _ us hl => match us, hl with | [_, _, _], _ => rfl
  have G_day_sets := PySem.W.mg_of X G a17
  have F_day_sets := fun_mk (st := s_day_sets) l17 c17 k17
  have B_day_sets := F_day_sets.binds (ps := P_day_sets) fun _ _ _ _ _ _ us hl => match us, hl with | [_, _], _ => rfl
  have G_last_stop := PySem.W.mg_of X G a18
  have F_last_stop := fun_mk (st := s_last_stop) l18 c18 k18
  have B_last_stop := F_last_stop.binds (ps := P_last_stop) fun _ _ _ _ _ _ us hl => match us, hl with | [_, _, _, _], _ => rfl
  have G_where := PySem.W.mg_of X G a19
  have F_where := fun_mk (st := s_where) l19 c19 k19
  have B_where := F_where.binds (ps := P_where) fun _ _ _ _ _ _ us hl => match us, hl with | [_, _, _, _], _ => rfl
  have G_letters := PySem.W.mg_of X G a20
  have F_letters := fun_mk (st := s_letters) l20 c20 k20
  have B_letters := F_letters.binds (ps := P_letters) fun _ _ _ _ _ _ us hl => match us, hl with | [_], _ => rfl
  have G_day_stops := PySem.W.mg_of X G a21
  have F_day_stops := fun_mk (st := s_day_stops) l21 c21 k21
  have B_day_stops := F_day_stops.binds (ps := P_day_stops) fun _ _ _ _ _ _ us hl => match us, hl with | [_, _], _ => rfl
  have G_slowest := PySem.W.mg_of X G a22
  have F_slowest := fun_mk (st := s_slowest) l22 c22 k22
  have B_slowest := F_slowest.binds (ps := P_slowest) fun _ _ _ _ _ _ us hl => match us, hl with | [_], _ => rfl
  have G_loops := PySem.W.mg_of X G a23
  have F_loops := fun_mk (st := s_loops) l23 c23 k23
  have B_loops := F_loops.binds (ps := P_loops) fun _ _ _ _ _ _ us hl => match us, hl with | [_], _ => rfl
  have G_add_ways := PySem.W.mg_of X G a24
  have F_add_ways := fun_mk (st := s_add_ways) l24 c24 k24
  have B_add_ways := F_add_ways.binds (ps := P_add_ways) fun _ _ _ _ _ _ us hl => match us, hl with | [_, _, _, _], _ => rfl
  have G_find_ways := PySem.W.mg_of X G a25
  have F_find_ways := fun_mk (st := s_find_ways) l25 c25 k25
  have B_find_ways := F_find_ways.binds (ps := P_find_ways) fun _ _ _ _ _ _ us hl => match us, hl with | [_], _ => rfl
  have G_ways_to := PySem.W.mg_of X G a26
  have F_ways_to := fun_mk (st := s_ways_to) l26 c26 k26
  have B_ways_to := F_ways_to.binds (ps := P_ways_to) fun _ _ _ _ _ _ us hl => match us, hl with | [_, _], _ => rfl
  have G_senders := PySem.W.mg_of X G a27
  have F_senders := fun_mk (st := s_senders) l27 c27 k27
  have B_senders := F_senders.binds (ps := P_senders) fun _ _ _ _ _ _ us hl => match us, hl with | [_, _, _], _ => rfl
  have G_count_chasing := PySem.W.mg_of X G a28
  have F_count_chasing := fun_mk (st := s_count_chasing) l28 c28 k28
  have B_count_chasing := F_count_chasing.binds (ps := P_count_chasing) fun _ _ _ _ _ _ us hl => match us, hl with | [_], _ => rfl
  have G_without_order := PySem.W.mg_of X G a29
  have F_without_order := fun_mk (st := s_without_order) l29 c29 k29
  have B_without_order := F_without_order.binds (ps := P_without_order) fun _ _ _ _ _ _ us hl => match us, hl with | [_, _], _ => rfl
  have G_without := PySem.W.mg_of X G a30
  have F_without := fun_mk (st := s_without) l30 c30 k30
  have B_without := F_without.binds (ps := P_without) fun _ _ _ _ _ _ us hl => match us, hl with | [_, _], _ => rfl
  have G_harmful_orders := PySem.W.mg_of X G a31
  have F_harmful_orders := fun_mk (st := s_harmful_orders) l31 c31 k31
  have B_harmful_orders := F_harmful_orders.binds (ps := P_harmful_orders) fun _ _ _ _ _ _ us hl => match us, hl with | [_], _ => rfl
  have G_result_on := PySem.W.mg_of X G a32
  have F_result_on := fun_mk (st := s_result_on) l32 c32 k32
  have B_result_on := F_result_on.binds (ps := P_result_on) fun _ _ _ _ _ _ us hl => match us, hl with | [_, _], _ => rfl
  have G_checksum := PySem.W.mg_of X G a33
  have F_checksum := fun_mk (st := s_checksum) l33 c33 k33
  have B_checksum := F_checksum.binds (ps := P_checksum) fun _ _ _ _ _ _ us hl => match us, hl with | [_], _ => rfl
  have G_encode := PySem.W.mg_of X G a34
  have F_encode := fun_mk (st := s_encode) l34 c34 k34
  have B_encode := F_encode.binds (ps := P_encode) fun _ _ _ _ _ _ us hl => match us, hl with | [_], _ => rfl
  have G_check_index := PySem.W.mg_of X G a35
  have F_check_index := fun_mk (st := s_check_index) l35 c35 k35
  have B_check_index := F_check_index.binds (ps := P_check_index) fun _ _ _ _ _ _ us hl => match us, hl with | [_, _], _ => rfl
  have G_with_order := PySem.W.mg_of X G a36
  have F_with_order := fun_mk (st := s_with_order) l36 c36 k36
  have B_with_order := F_with_order.binds (ps := P_with_order) fun _ _ _ _ _ _ us hl => match us, hl with | [_, _, _], _ => rfl
  have G_find_candidates := PySem.W.mg_of X G a37
  have F_find_candidates := fun_mk (st := s_find_candidates) l37 c37 k37
  have B_find_candidates := F_find_candidates.binds (ps := P_find_candidates) fun _ _ _ _ _ _ us hl => match us, hl with | [_, _], _ => rfl
  have G_check_result := PySem.W.mg_of X G a38
  have F_check_result := fun_mk (st := s_check_result) l38 c38 k38
  have B_check_result := F_check_result.binds (ps := P_check_result) fun _ _ _ _ _ _ us hl => match us, hl with | [_, _], _ => rfl
  have G_l_results := PySem.W.mg_of X G a39
  have F_l_results := fun_mk (st := s_l_results) l39 c39 k39
  have B_l_results := F_l_results.binds (ps := P_l_results) fun _ _ _ _ _ _ us hl => match us, hl with | [_], _ => rfl
  have G_law := PySem.W.mg_of X G a40
  have F_law := fun_mk (st := s_law) l40 c40 k40
  have B_law := F_law.binds (ps := P_law) fun _ _ _ _ _ _ us hl => match us, hl with | [_], _ => rfl
  have F_Net_init := fun_mk (st := s_Net_init) l41 c41 k41
  have B_Net_init := F_Net_init.binds (ps := P_Net_init) fun _ _ _ _ _ _ us hl => match us, hl with | [_, _, _, _], _ => rfl
  have M_Net_init : Mk K C_Net f41 := ⟨mkNet, a41, i41, kcNet⟩
  have F_Net_stop_after := fun_mk (st := s_Net_stop_after) l42 c42 k42
  have B_Net_stop_after := F_Net_stop_after.binds (ps := P_Net_stop_after) fun _ _ _ _ _ _ us hl => match us, hl with | [_, _, _], _ => rfl
  have M_Net_stop_after : Meth K C_Net "stop_after" f42 := ⟨a42, i42, k42⟩
  have F_Net_route := fun_mk (st := s_Net_route) l43 c43 k43
  have B_Net_route := F_Net_route.binds (ps := P_Net_route) fun _ _ _ _ _ _ us hl => match us, hl with | [_, _, _, _], _ => rfl
  have M_Net_route : Meth K C_Net "route" f43 := ⟨a43, i43, k43⟩
  have F_Net_idle_orders := fun_mk (st := s_Net_idle_orders) l44 c44 k44
  have B_Net_idle_orders := F_Net_idle_orders.binds (ps := P_Net_idle_orders) fun _ _ _ _ _ _ us hl => match us, hl with | [_], _ => rfl
  have M_Net_idle_orders : PropOf K C_Net "idle_orders" p44 f44 := ⟨a44, pg44, pt44, _, pc44⟩
  have F_Net_text := fun_mk (st := s_Net_text) l45 c45 k45
  have B_Net_text := F_Net_text.binds (ps := P_Net_text) fun _ _ _ _ _ _ us hl => match us, hl with | [_], _ => rfl
  have M_Net_text : PropOf K C_Net "text" p45 f45 := ⟨a45, pg45, pt45, _, pc45⟩
  have F_Office_init := fun_mk (st := s_Office_init) l46 c46 k46
  have B_Office_init := F_Office_init.binds (ps := P_Office_init) fun _ _ _ _ _ _ us hl => match us, hl with | [_, _], _ => rfl
  have M_Office_init : Mk K C_Office f46 := ⟨mkOffice, a46, i46, kcOffice⟩
  have F_Office_present_orders := fun_mk (st := s_Office_present_orders) l47 c47 k47
  have B_Office_present_orders := F_Office_present_orders.binds (ps := P_Office_present_orders) fun _ _ _ _ _ _ us hl => match us, hl with | [_], _ => rfl
  have M_Office_present_orders : PropOf K C_Office "present_orders" p47 f47 := ⟨a47, pg47, pt47, _, pc47⟩
  have F_Office_take_step := fun_mk (st := s_Office_take_step) l48 c48 k48
  have B_Office_take_step := F_Office_take_step.binds (ps := P_Office_take_step) fun _ _ _ _ _ _ us hl => match us, hl with | [_, _, _], _ => rfl
  have M_Office_take_step : Meth K C_Office "take_step" f48 := ⟨a48, i48, k48⟩
  have F_Office_cancel := fun_mk (st := s_Office_cancel) l49 c49 k49
  have B_Office_cancel := F_Office_cancel.binds (ps := P_Office_cancel) fun _ _ _ _ _ _ us hl => match us, hl with | [_, _], _ => rfl
  have M_Office_cancel : Meth K C_Office "cancel" f49 := ⟨a49, i49, k49⟩
  have F_Watcher_init := fun_mk (st := s_Watcher_init) l50 c50 k50
  have B_Watcher_init := F_Watcher_init.binds (ps := P_Watcher_init) fun _ _ _ _ _ _ us hl => match us, hl with | [_, _, _], _ => rfl
  have M_Watcher_init : Mk K C_Watcher f50 := ⟨mkWatcher, a50, i50, kcWatcher⟩
  have F_Watcher_candidates := fun_mk (st := s_Watcher_candidates) l51 c51 k51
  have B_Watcher_candidates := F_Watcher_candidates.binds (ps := P_Watcher_candidates) fun _ _ _ _ _ _ us hl => match us, hl with | [_], _ => rfl
  have M_Watcher_candidates : PropOf K C_Watcher "candidates" p51 f51 := ⟨a51, pg51, pt51, _, pc51⟩
  have F_Watcher_history := fun_mk (st := s_Watcher_history) l52 c52 k52
  have B_Watcher_history := F_Watcher_history.binds (ps := P_Watcher_history) fun _ _ _ _ _ _ us hl => match us, hl with | [_], _ => rfl
  have M_Watcher_history : PropOf K C_Watcher "history" p52 f52 := ⟨a52, pg52, pt52, _, pc52⟩
  have F_Watcher_result_with := fun_mk (st := s_Watcher_result_with) l53 c53 k53
  have B_Watcher_result_with := F_Watcher_result_with.binds (ps := P_Watcher_result_with) fun _ _ _ _ _ _ us hl => match us, hl with | [_, _, _, _], _ => rfl
  have M_Watcher_result_with : Meth K C_Watcher "result_with" f53 := ⟨a53, i53, k53⟩
  have F_Watcher_count_results := fun_mk (st := s_Watcher_count_results) l54 c54 k54
  have B_Watcher_count_results := F_Watcher_count_results.binds (ps := P_Watcher_count_results) fun _ _ _ _ _ _ us hl => match us, hl with | [_, _, _], _ => rfl
  have M_Watcher_count_results : Meth K C_Watcher "count_results" f54 := ⟨a54, i54, k54⟩
  have F_Watcher_results := fun_mk (st := s_Watcher_results) l55 c55 k55
  have B_Watcher_results := F_Watcher_results.binds (ps := P_Watcher_results) fun _ _ _ _ _ _ us hl => match us, hl with | [_, _, _], _ => rfl
  have M_Watcher_results : Meth K C_Watcher "results" f55 := ⟨a55, i55, k55⟩
  have F_Watcher_see_all := fun_mk (st := s_Watcher_see_all) l56 c56 k56
  have M_Watcher_see_all : Meth K C_Watcher "see_all" f56 := ⟨a56, i56, k56⟩
  have F_Watcher_see := fun_mk (st := s_Watcher_see) l57 c57 k57
  have B_Watcher_see := F_Watcher_see.binds (ps := P_Watcher_see) fun _ _ _ _ _ _ us hl => match us, hl with | [_, _, _, _], _ => rfl
  have M_Watcher_see : Meth K C_Watcher "see" f57 := ⟨a57, i57, k57⟩
  refine ⟨PySem.W.fnOf "law" "law" (defArgs s_law) (defBody s_law) (defScope s_law) .none kV40 dc40 pm40 an40 cd40 ct40, fun s v => .of_eq rfl, fun base _ _ => ?_⟩
  have D_isint : Df l.prog w K mg base "is_integer" 1 P_is_integer (spIsInt K) := ⟨_, _, G_is_integer, F_is_integer.kp, B_is_integer, ok_isint F_is_integer B⟩
  have D_within : Df l.prog w K mg base "is_within" 2 P_is_within (spWithin K) := ⟨_, _, G_is_within, F_is_within.kp, B_is_within, ok_within F_is_within D_isint⟩
  have D_order : Df l.prog w K mg base "is_order" 3 P_is_order (spIsOrder K) := ⟨_, _, G_is_order, F_is_order.kp, B_is_order, ok_is_order F_is_order B D_within K_LONGEST_DELAY⟩
  have D_chk : Df l.prog w K mg base "check_orders" 4 P_check_orders spChkOrders := ⟨_, _, G_check_orders, F_check_orders.kp, B_check_orders, ok_chk_orders F_check_orders B D_order K_MOST_ORDERS⟩
  have D_fol : Df l.prog w K mg base "find_followed" 2 P_find_followed spFollowed := ⟨_, _, G_find_followed, F_find_followed.kp, B_find_followed, ok_followed F_find_followed B⟩
  have D_house : Df l.prog w K mg base "check_house" 3 P_check_house (spHouse C_Net) := ⟨_, _, G_check_house, F_check_house.kp, B_check_house, ok_house F_check_house T_Net D_within⟩
  have D_day : Df l.prog w K mg base "check_day" 3 P_check_day spDay := ⟨_, _, G_check_day, F_check_day.kp, B_check_day, ok_day F_check_day D_within K_LAST_DAY⟩
  have D_let : Df l.prog w K mg base "check_letter" 4 P_check_letter (spLetter C_Net) := ⟨_, _, G_check_letter, F_check_letter.kp, B_check_letter, ok_letter F_check_letter D_house D_day⟩
  have D_rnd : Df l.prog w K mg base "_law_random" 2 P_l_random (spRandom K) := ⟨_, _, G_l_random, F_l_random.kp, B_l_random, ok_random F_l_random B⟩
  have D_bel : Df l.prog w K mg base "_law_below" 2 P_l_below spBelow := ⟨_, _, G_l_below, F_l_below.kp, B_l_below, ok_below F_l_below B.len⟩
  have D_ord : Df l.prog w K mg base "_law_order" 3 P_l_order spOrder := ⟨_, _, G_l_order, F_l_order.kp, B_l_order, ok_order F_l_order D_bel⟩
  have D_sml : Df l.prog w K mg base "_law_small" 4 P_l_small spSmall := ⟨_, _, G_l_small, F_l_small.kp, B_l_small, ok_small F_l_small B D_bel D_ord⟩
  have O_init : FnOk l.prog w K mg base CX0 5 _ _ P_Net_init (spInit C_Net) := ok_init F_Net_init T_Net D_within D_chk D_fol K_LONGEST_PERIOD K_MOST_HOUSES
  have D_net : Df l.prog w K mg base "_law_net" 7 P_l_net (spNet C_Net) := ⟨_, _, G_l_net, F_l_net.kp, B_l_net, ok_net F_l_net M_Net_init G_Net O_init B_Net_init⟩
  have D_eq : ∀ n, Df l.prog w K mg base "_law_equal" (n + 2) P_l_equal (spEqual n) := fun n => ⟨_, _, G_l_equal, F_l_equal.kp, B_l_equal, (ok_equal F_l_equal B G_l_equal B_l_equal n).mono (by omega)⟩
  have O_stop : FnOk l.prog w K mg base CX0 2 _ _ P_Net_stop_after (spStop C_Net) := ok_stop_after F_Net_stop_after T_Net
  have O_rt : GFn l.prog w K mg base 5 _ _ P_Net_route (spRoute C_Net) := ok_route F_Net_route T_Net D_let O_stop M_Net_stop_after B_Net_stop_after
  have O_idle : FnOk l.prog w K mg base CX0 2 _ _ P_Net_idle_orders (spIdle C_Net) := ok_idle F_Net_idle_orders T_Net B
  have D_fl : Df l.prog w K mg base "follow" 7 P_follow (spFollow C_Net) := ⟨_, _, G_follow, F_follow.kp, B_follow, ok_follow F_follow B T_Net F_Net_route M_Net_route B_Net_route D_let O_stop M_Net_stop_after B_Net_stop_after⟩
  have D_de : Df l.prog w K mg base "destination" 8 P_destination (spDest C_Net) := ⟨_, _, G_destination, F_destination.kp, B_destination, ok_dest F_destination D_fl⟩
  have D_se : Df l.prog w K mg base "day_sets" 8 P_day_sets (spSets C_Net) := ⟨_, _, G_day_sets, F_day_sets.kp, B_day_sets, ok_sets F_day_sets B T_Net D_fl⟩
  have D_la : Df l.prog w K mg base "last_stop" 8 P_last_stop (spLast C_Net) := ⟨_, _, G_last_stop, F_last_stop.kp, B_last_stop, ok_last F_last_stop B D_fl⟩
  have D_wh : Df l.prog w K mg base "where" 9 P_where (spWhere C_Net) := ⟨_, _, G_where, F_where.kp, B_where, ok_where F_where T_Net D_let D_day D_la O_stop M_Net_stop_after B_Net_stop_after⟩
  have D_ls : Df l.prog w K mg base "letters" 2 P_letters (spLets C_Net) := ⟨_, _, G_letters, F_letters.kp, B_letters, ok_letters F_letters B T_Net⟩
  have D_ds : Df l.prog w K mg base "day_stops" 2 P_day_stops (spDst C_Net) := ⟨_, _, G_day_stops, F_day_stops.kp, B_day_stops, ok_dst F_day_stops T_Net⟩
  have D_sl : Df l.prog w K mg base "slowest" 8 P_slowest (spSlow C_Net) := ⟨_, _, G_slowest, F_slowest.kp, B_slowest, ok_slowest F_slowest D_ls D_fl⟩
  have D_lo : Df l.prog w K mg base "loops" 8 P_loops (spLoops C_Net) := ⟨_, _, G_loops, F_loops.kp, B_loops, ok_loops F_loops B Z_min D_ls D_fl D_ds⟩
  have D_aw : Df l.prog w K mg base "add_ways" 3 P_add_ways (spAddWays C_Net) := ⟨_, _, G_add_ways, F_add_ways.kp, B_add_ways, ok_add_ways F_add_ways T_Net O_stop M_Net_stop_after B_Net_stop_after⟩
  have D_fw : Df l.prog w K mg base "find_ways" 4 P_find_ways (spFindWays C_Net) := ⟨_, _, G_find_ways, F_find_ways.kp, B_find_ways, ok_find_ways F_find_ways D_ls D_aw⟩
  have D_wt : Df l.prog w K mg base "ways_to" 5 P_ways_to (spWaysTo C_Net) := ⟨_, _, G_ways_to, F_ways_to.kp, B_ways_to, ok_ways_to F_ways_to D_ls D_fw⟩
  have D_sd : Df l.prog w K mg base "senders" 6 P_senders (spSenders C_Net) := ⟨_, _, G_senders, F_senders.kp, B_senders, ok_senders F_senders T_Net Z_sorted D_let D_wt⟩
  have D_cc : Df l.prog w K mg base "count_chasing" 5 P_count_chasing (spChasing C_Net) := ⟨_, _, G_count_chasing, F_count_chasing.kp, B_count_chasing, ok_chasing F_count_chasing B D_fw⟩
  have D_wo : Df l.prog w K mg base "without_order" 1 P_without_order spWo := ⟨_, _, G_without_order, F_without_order.kp, B_without_order, ok_wo F_without_order⟩
  have D_wi : Df l.prog w K mg base "without" 7 P_without (spWithout C_Net) := ⟨_, _, G_without, F_without.kp, B_without, ok_without F_without T_Net M_Net_init G_Net O_init B_Net_init D_wo⟩
  have D_ha : Df l.prog w K mg base "harmful_orders" 8 P_harmful_orders (spHarm C_Net) := ⟨_, _, G_harmful_orders, F_harmful_orders.kp, B_harmful_orders, ok_harm F_harmful_orders B T_Net D_cc D_wi⟩
  have D_ro2 : Df l.prog w K mg base "result_on" 2 P_result_on spResOn := ⟨_, _, G_result_on, F_result_on.kp, B_result_on, ok_res_on F_result_on⟩
  have O_tx : FnOk l.prog w K mg base CX0 2 _ _ P_Net_text (spText C_Net) := ok_text F_Net_text T_Net
  have D_cs : Df l.prog w K mg base "checksum" 1 P_checksum (spCheckS K) := ⟨_, _, G_checksum, F_checksum.kp, B_checksum, ok_checksum F_checksum Z_sum⟩
  have D_en : Df l.prog w K mg base "encode" 2 P_encode (spEncode C_Net) := ⟨_, _, G_encode, F_encode.kp, B_encode, ok_encode F_encode B T_Net K_FIRST_BYTE D_cs⟩
  have D_ci : Df l.prog w K mg base "check_index" 3 P_check_index spChkIx := ⟨_, _, G_check_index, F_check_index.kp, B_check_index, ok_chk_ix F_check_index B D_within⟩
  have O_oi : FnOk l.prog w K mg base CX0 1 _ _ P_Office_init (spOInit C_Office C_Net) := ok_off_init F_Office_init T_Office
  have O_po : FnOk l.prog w K mg base CX0 1 _ _ P_Office_present_orders (spPres C_Office C_Net) := ok_pres F_Office_present_orders T_Office T_Net
  have O_ts : FnOk l.prog w K mg base CX0 1 _ _ P_Office_take_step (spTake C_Office C_Net) := ok_take F_Office_take_step T_Office
  have O_oc : FnOk l.prog w K mg base CX0 4 _ _ P_Office_cancel (spCancel C_Office C_Net) := ok_cancel F_Office_cancel T_Office M_Office_present_orders O_po B_Office_present_orders M_Office_take_step O_ts B_Office_take_step D_ci D_wo
  have D_wi : Df l.prog w K mg base "with_order" 1 P_with_order spWith := ⟨_, _, G_with_order, F_with_order.kp, B_with_order, ok_with F_with_order⟩
  have D_fcd : Df l.prog w K mg base "find_candidates" 7 P_find_candidates (spCands C_Net) := ⟨_, _, G_find_candidates, F_find_candidates.kp, B_find_candidates, ok_cands F_find_candidates B T_Net M_Net_init G_Net O_init B_Net_init D_wi D_fw K_LONGEST_DELAY⟩
  have O_wn : FnOk l.prog w K mg base CX0 8 _ _ P_Watcher_init (spWInit C_Watcher C_Net) := ok_w_init F_Watcher_init B.list T_Watcher T_Net D_ci D_fcd
  have O_wc : FnOk l.prog w K mg base CX0 1 _ _ P_Watcher_candidates (spWCands C_Watcher C_Net) := ok_w_cands F_Watcher_candidates B T_Watcher
  have O_whi : FnOk l.prog w K mg base CX0 1 _ _ P_Watcher_history (spWHist C_Watcher C_Net) := ok_w_hist F_Watcher_history B T_Watcher
  have O_wr : FnOk l.prog w K mg base CX0 3 _ _ P_Watcher_result_with (spWRes C_Watcher C_Net) := ok_w_res F_Watcher_result_with T_Watcher T_Net D_ro2
  have D_cr : Df l.prog w K mg base "check_result" 3 P_check_result (spChkRes C_Net) := ⟨_, _, G_check_result, F_check_result.kp, B_check_result, ok_chk_res F_check_result B T_Net D_within D_isint⟩
  have O_wct : FnOk l.prog w K mg base CX0 4 _ _ P_Watcher_count_results (spWCnt l.prog w C_Watcher C_Net) := ok_w_cnt F_Watcher_count_results T_Watcher M_Watcher_result_with O_wr B_Watcher_result_with
  have O_wrs : FnOk l.prog w K mg base CX0 5 _ _ P_Watcher_results (spWRess C_Watcher C_Net) := ok_w_ress F_Watcher_results T_Watcher Z_sorted D_let M_Watcher_count_results O_wct B_Watcher_count_results
  have O_wsa : FnR l.prog w K mg base CX0 5 _ (spWAll C_Watcher C_Net) := ok_w_all F_Watcher_see_all B T_Watcher T_Net D_let D_cr M_Watcher_result_with O_wr B_Watcher_result_with
  have O_wse : FnOk l.prog w K mg base CX0 6 _ _ P_Watcher_see (spWSee C_Watcher C_Net) := ok_w_see F_Watcher_see T_Watcher M_Watcher_see_all O_wsa
  have D_rs29 : Df l.prog w K mg base "_law_results" 10 P_l_results (spRes29 C_Net) := ⟨_, _, G_l_results, F_l_results.kp, B_l_results, ok_results F_l_results B T_Net T_Watcher M_Net_route O_rt B_Net_route D_lo D_en D_ha D_sd M_Net_idle_orders O_idle B_Net_idle_orders D_sl D_de D_wh M_Net_text O_tx B_Net_text D_se G_Watcher M_Watcher_init O_wn B_Watcher_init M_Watcher_candidates O_wc B_Watcher_candidates⟩
  exact ok_law F_law B T_Net T_Office T_Watcher D_rnd D_sml D_net D_rs29 D_eq G_Office M_Office_init O_oi B_Office_init M_Office_cancel O_oc B_Office_cancel M_Office_present_orders O_po B_Office_present_orders G_Watcher M_Watcher_init O_wn B_Watcher_init M_Watcher_see O_wse B_Watcher_see M_Watcher_results O_wrs B_Watcher_results M_Watcher_candidates O_wc B_Watcher_candidates M_Watcher_history O_whi B_Watcher_history
end Cp
open PySem PySem.W PyProof.Rows
set_option maxRecDepth 100000 in
set_option maxHeartbeats 0 in
theorem PySem.Challenge.cw_chasepost_k29_repeated_calls_holds : PySem.Challenge.rw_chasepost_k29_repeated_calls.Holds := by
  w_on; o_law; k_head; (case hw => w_witness2)
  k_fill
  refine L2.walk_of (l := PySem.Challenge.rw_chasepost_k29_repeated_calls) (n := 63) (k := 11) (x := "_law_script") (CX := fun _ => L2.CX0) (sp := fun w => Cp.spLaw _) rfl (by decide) rfl ⟨rfl, by decide, by decide⟩ (fun w h Y => PySem.W.kIn_of Y) ?F (fun _ _ a ns hl _ hS => ⟨a, ns, rfl, hS, hl, fun _ => rfl⟩) (fun _ _ _ _ _ h => h)
  case F =>
    intro w mg fa h KX G hmg
    refine' Cp.all_mk KX G hmg ?aCNet ?aCOffice ?aCWatcher ?a1 ?l1 ?c1 ?k1 ?a2 ?l2 ?c2 ?k2 ?a3 ?l3 ?c3 ?k3 ?a4 ?l4 ?c4 ?k4 ?a5 ?l5 ?c5 ?k5 ?a6 ?l6 ?c6 ?k6 ?a7 ?l7 ?c7 ?k7 ?a8 ?l8 ?c8 ?k8 ?a9 ?l9 ?c9 ?k9 ?a10 ?l10 ?c10 ?k10 ?a11 ?l11 ?c11 ?k11 ?a12 ?l12 ?c12 ?k12 ?a13 ?l13 ?c13 ?k13 ?a14 ?l14 ?c14 ?k14 ?a15 ?l15 ?c15 ?k15 ?a16 ?l16 ?c16 ?k16 ?a17 ?l17 ?c17 ?k17 ?a18 ?l18 ?c18 ?k18 ?a19 ?l19 ?c19 ?k19 ?a20 ?l20 ?c20 ?k20 ?a21 ?l21 ?c21 ?k21 ?a22 ?l22 ?c22 ?k22 ?a23 ?l23 ?c23 ?k23 ?a24 ?l24 ?c24 ?k24 ?a25 ?l25 ?c25 ?k25 ?a26 ?l26 ?c26 ?k26 ?a27 ?l27 ?c27 ?k27 ?a28 ?l28 ?c28 ?k28 ?a29 ?l29 ?c29 ?k29 ?a30 ?l30 ?c30 ?k30 ?a31 ?l31 ?c31 ?k31 ?a32 ?l32 ?c32 ?k32 ?a33 ?l33 ?c33 ?k33 ?a34 ?l34 ?c34 ?k34 ?a35 ?l35 ?c35 ?k35 ?a36 ?l36 ?c36 ?k36 ?a37 ?l37 ?c37 ?k37 ?a38 ?l38 ?c38 ?k38 ?a39 ?l39 ?c39 ?k39 ?a40 ?l40 ?c40 ?k40 ?a41 ?i41 ?l41 ?c41 ?k41 ?a42 ?i42 ?l42 ?c42 ?k42 ?a43 ?i43 ?l43 ?c43 ?k43 ?a44 ?pg44 ?pt44 ?pc44 ?l44 ?c44 ?k44 ?a45 ?pg45 ?pt45 ?pc45 ?l45 ?c45 ?k45 ?a46 ?i46 ?l46 ?c46 ?k46 ?a47 ?pg47 ?pt47 ?pc47 ?l47 ?c47 ?k47 ?a48 ?i48 ?l48 ?c48 ?k48 ?a49 ?i49 ?l49 ?c49 ?k49 ?a50 ?i50 ?l50 ?c50 ?k50 ?a51 ?pg51 ?pt51 ?pc51 ?l51 ?c51 ?k51 ?a52 ?pg52 ?pt52 ?pc52 ?l52 ?c52 ?k52 ?a53 ?i53 ?l53 ?c53 ?k53 ?a54 ?i54 ?l54 ?c54 ?k54 ?a55 ?i55 ?l55 ?c55 ?k55 ?a56 ?i56 ?l56 ?c56 ?k56 ?a57 ?i57 ?l57 ?c57 ?k57 ?pgNet ?hdNet ?poNet ?saNet ?mkNet ?kcNet ?nNet_period ?nNet_houses ?nNet_orders ?nNet_followed ?pgOffice ?hdOffice ?poOffice ?saOffice ?mkOffice ?kcOffice ?nOffice_net ?nOffice_steps ?nOffice_effective ?nOffice_snapshots ?pgWatcher ?hdWatcher ?poWatcher ?saWatcher ?mkWatcher ?kcWatcher ?nWatcher_net ?nWatcher_ways ?nWatcher_remaining ?nWatcher_accepted ?vLAST_DAY ?vLONGEST_PERIOD ?vMOST_HOUSES ?vMOST_ORDERS ?vLONGEST_DELAY ?vFIRST_BYTE ?zlen ?zrange ?zisinstance ?zint ?zbool ?zstr ?ztuple ?zlist ?zall ?zabs ?zenumerate ?zmin ?zsorted ?zsum
    (case aCNet => k_is)
    (case aCOffice => k_is)
    (case aCWatcher => k_is)
    (case a1 => k_is)
    (case l1 => k_is)
    (case c1 => k_is)
    (case k1 => k_is)
    (case a2 => k_is)
    (case l2 => k_is)
    (case c2 => k_is)
    (case k2 => k_is)
    (case a3 => k_is)
    (case l3 => k_is)
    (case c3 => k_is)
    (case k3 => k_is)
    (case a4 => k_is)
    (case l4 => k_is)
    (case c4 => k_is)
    (case k4 => k_is)
    (case a5 => k_is)
    (case l5 => k_is)
    (case c5 => k_is)
    (case k5 => k_is)
    (case a6 => k_is)
    (case l6 => k_is)
    (case c6 => k_is)
    (case k6 => k_is)
    (case a7 => k_is)
    (case l7 => k_is)
    (case c7 => k_is)
    (case k7 => k_is)
    (case a8 => k_is)
    (case l8 => k_is)
    (case c8 => k_is)
    (case k8 => k_is)
    (case a9 => k_is)
    (case l9 => k_is)
    (case c9 => k_is)
    (case k9 => k_is)
    (case a10 => k_is)
    (case l10 => k_is)
    (case c10 => k_is)
    (case k10 => k_is)
    (case a11 => k_is)
    (case l11 => k_is)
    (case c11 => k_is)
    (case k11 => k_is)
    (case a12 => k_is)
    (case l12 => k_is)
    (case c12 => k_is)
    (case k12 => k_is)
    (case a13 => k_is)
    (case l13 => k_is)
    (case c13 => k_is)
    (case k13 => k_is)
    (case a14 => k_is)
    (case l14 => k_is)
    (case c14 => k_is)
    (case k14 => k_is)
    (case a15 => k_is)
    (case l15 => k_is)
    (case c15 => k_is)
    (case k15 => k_is)
    (case a16 => k_is)
    (case l16 => k_is)
    (case c16 => k_is)
    (case k16 => k_is)
    (case a17 => k_is)
    (case l17 => k_is)
    (case c17 => k_is)
    (case k17 => k_is)
    (case a18 => k_is)
    (case l18 => k_is)
    (case c18 => k_is)
    (case k18 => k_is)
    (case a19 => k_is)
    (case l19 => k_is)
    (case c19 => k_is)
    (case k19 => k_is)
    (case a20 => k_is)
    (case l20 => k_is)
    (case c20 => k_is)
    (case k20 => k_is)
    (case a21 => k_is)
    (case l21 => k_is)
    (case c21 => k_is)
    (case k21 => k_is)
    (case a22 => k_is)
    (case l22 => k_is)
    (case c22 => k_is)
    (case k22 => k_is)
    (case a23 => k_is)
    (case l23 => k_is)
    (case c23 => k_is)
    (case k23 => k_is)
    (case a24 => k_is)
    (case l24 => k_is)
    (case c24 => k_is)
    (case k24 => k_is)
    (case a25 => k_is)
    (case l25 => k_is)
    (case c25 => k_is)
    (case k25 => k_is)
    (case a26 => k_is)
    (case l26 => k_is)
    (case c26 => k_is)
    (case k26 => k_is)
    (case a27 => k_is)
    (case l27 => k_is)
    (case c27 => k_is)
    (case k27 => k_is)
    (case a28 => k_is)
    (case l28 => k_is)
    (case c28 => k_is)
    (case k28 => k_is)
    (case a29 => k_is)
    (case l29 => k_is)
    (case c29 => k_is)
    (case k29 => k_is)
    (case a30 => k_is)
    (case l30 => k_is)
    (case c30 => k_is)
    (case k30 => k_is)
    (case a31 => k_is)
    (case l31 => k_is)
    (case c31 => k_is)
    (case k31 => k_is)
    (case a32 => k_is)
    (case l32 => k_is)
    (case c32 => k_is)
    (case k32 => k_is)
    (case a33 => k_is)
    (case l33 => k_is)
    (case c33 => k_is)
    (case k33 => k_is)
    (case a34 => k_is)
    (case l34 => k_is)
    (case c34 => k_is)
    (case k34 => k_is)
    (case a35 => k_is)
    (case l35 => k_is)
    (case c35 => k_is)
    (case k35 => k_is)
    (case a36 => k_is)
    (case l36 => k_is)
    (case c36 => k_is)
    (case k36 => k_is)
    (case a37 => k_is)
    (case l37 => k_is)
    (case c37 => k_is)
    (case k37 => k_is)
    (case a38 => k_is)
    (case l38 => k_is)
    (case c38 => k_is)
    (case k38 => k_is)
    (case a39 => k_is)
    (case l39 => k_is)
    (case c39 => k_is)
    (case k39 => k_is)
    (case a40 => k_is)
    (case l40 => k_is)
    (case c40 => k_is)
    (case k40 => k_is)
    (case a41 => k_is)
    (case i41 => k_is)
    (case l41 => k_is)
    (case c41 => k_is)
    (case k41 => k_is)
    (case a42 => k_is)
    (case i42 => k_is)
    (case l42 => k_is)
    (case c42 => k_is)
    (case k42 => k_is)
    (case a43 => k_is)
    (case i43 => k_is)
    (case l43 => k_is)
    (case c43 => k_is)
    (case k43 => k_is)
    (case a44 => k_is)
    (case pg44 => k_is)
    (case pt44 => k_is)
    (case pc44 => k_is)
    (case l44 => k_is)
    (case c44 => k_is)
    (case k44 => k_is)
    (case a45 => k_is)
    (case pg45 => k_is)
    (case pt45 => k_is)
    (case pc45 => k_is)
    (case l45 => k_is)
    (case c45 => k_is)
    (case k45 => k_is)
    (case a46 => k_is)
    (case i46 => k_is)
    (case l46 => k_is)
    (case c46 => k_is)
    (case k46 => k_is)
    (case a47 => k_is)
    (case pg47 => k_is)
    (case pt47 => k_is)
    (case pc47 => k_is)
    (case l47 => k_is)
    (case c47 => k_is)
    (case k47 => k_is)
    (case a48 => k_is)
    (case i48 => k_is)
    (case l48 => k_is)
    (case c48 => k_is)
    (case k48 => k_is)
    (case a49 => k_is)
    (case i49 => k_is)
    (case l49 => k_is)
    (case c49 => k_is)
    (case k49 => k_is)
    (case a50 => k_is)
    (case i50 => k_is)
    (case l50 => k_is)
    (case c50 => k_is)
    (case k50 => k_is)
    (case a51 => k_is)
    (case pg51 => k_is)
    (case pt51 => k_is)
    (case pc51 => k_is)
    (case l51 => k_is)
    (case c51 => k_is)
    (case k51 => k_is)
    (case a52 => k_is)
    (case pg52 => k_is)
    (case pt52 => k_is)
    (case pc52 => k_is)
    (case l52 => k_is)
    (case c52 => k_is)
    (case k52 => k_is)
    (case a53 => k_is)
    (case i53 => k_is)
    (case l53 => k_is)
    (case c53 => k_is)
    (case k53 => k_is)
    (case a54 => k_is)
    (case i54 => k_is)
    (case l54 => k_is)
    (case c54 => k_is)
    (case k54 => k_is)
    (case a55 => k_is)
    (case i55 => k_is)
    (case l55 => k_is)
    (case c55 => k_is)
    (case k55 => k_is)
    (case a56 => k_is)
    (case i56 => k_is)
    (case l56 => k_is)
    (case c56 => k_is)
    (case k56 => k_is)
    (case a57 => k_is)
    (case i57 => k_is)
    (case l57 => k_is)
    (case c57 => k_is)
    (case k57 => k_is)
    (case pgNet => k_is)
    (case hdNet => k_is)
    (case poNet => k_is)
    (case saNet => k_is)
    (case mkNet => k_is)
    (case kcNet => k_is)
    (case nNet_period => k_is)
    (case nNet_houses => k_is)
    (case nNet_orders => k_is)
    (case nNet_followed => k_is)
    (case pgOffice => k_is)
    (case hdOffice => k_is)
    (case poOffice => k_is)
    (case saOffice => k_is)
    (case mkOffice => k_is)
    (case kcOffice => k_is)
    (case nOffice_net => k_is)
    (case nOffice_steps => k_is)
    (case nOffice_effective => k_is)
    (case nOffice_snapshots => k_is)
    (case pgWatcher => k_is)
    (case hdWatcher => k_is)
    (case poWatcher => k_is)
    (case saWatcher => k_is)
    (case mkWatcher => k_is)
    (case kcWatcher => k_is)
    (case nWatcher_net => k_is)
    (case nWatcher_ways => k_is)
    (case nWatcher_remaining => k_is)
    (case nWatcher_accepted => k_is)
    (case vLAST_DAY => k_is)
    (case vLONGEST_PERIOD => k_is)
    (case vMOST_HOUSES => k_is)
    (case vMOST_ORDERS => k_is)
    (case vLONGEST_DELAY => k_is)
    (case vFIRST_BYTE => k_is)
    (case zlen => k_is)
    (case zrange => k_is)
    (case zisinstance => k_is)
    (case zint => k_is)
    (case zbool => k_is)
    (case zstr => k_is)
    (case ztuple => k_is)
    (case zlist => k_is)
    (case zall => k_is)
    (case zabs => k_is)
    (case zenumerate => k_is)
    (case zmin => k_is)
    (case zsorted => k_is)
    (case zsum => k_is)
