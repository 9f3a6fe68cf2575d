import PyProof.Rows.All
import Wide.All
import OpenK.AllK
import Wide.FinOn
import HandS.ForMost
import HandS.IsInst
import HandS.Property
import HandS.Codes
import HandS.Style
import HandS.WordsExc
import KE.KEqSeq
import HandS.Deep
import HandS.GenList
import HandS.GenYield
import KE.GoesMore
import PyProof.Draws
import KE.SortData
import KE.KUnpackStar
import HandS.CallLocal
import KE.KAssignIn
import KE.GoesEnumKw
import HandS.ClsMeth
import HandS.FStr
import HandS.StrMore
import KE.DataFind
import HandS.Conv
import HandS.SortInts
import KE.DataMinMax
import HandS.SortKw
import HandS.DictTup
import KE.KDictCopyH
import HandS.TupAny
import HandS.TupMul
import HandS.Wide
import HandS.Star
import HandS.NoneIn
import KE.KRevSl
import HandS.Lambda
import HandS.ExcIs
import HandS.TryOnly
import HandS.EndOwn
import KE.KNestM
import HandS.TupLen
import HandS.TupSets
import PySem.Challenge.RW_chasepost_k15_letters_seen_together
set_option Elab.async false
set_option linter.all false
set_option maxRecDepth 100000
namespace Cp
open PySem L2
def top (i : Nat) : Stmt := PySem.Challenge.pw_chasepost_k15_letters_seen_together.main.body.getD i (.Pass ⟨0, 0, 0, 0⟩)
/-! ### enumerate over a tuple: a walk for a for (the library's own serves lists) -/
section
open PyProof.Rows
open PySem.AutoSeq1 (wpAny_loadPart')
/-- what enumerate makes of a tuple: its iterator, then the enumerate object -/
abbrev enumHeap (g : Heap) (t : Addr) : Heap :=
  (g.push { cls := .type "tuple_iterator", data := .fields #[.ref t, .int 0 0] }).push { cls := .type "enumerate", data := .fields #[.none, .bool false, .ref g.objs.size, rawInt 0, .none, .none] }
theorem enumT_meets (t : Addr) (xs : Array Value) (k : Nat) (dd : Option Addr) (sv : Array (Option Value)) :
    Meets (Builtin.«enumerate.__new__» ⟨[.type "enumerate", .ref t], []⟩) (fun _ R s => s.heap.get? t = some { cls := .type "tuple", dict := dd, data := .seq xs k, slots := sv } ∧
      R (.ok (.ret (.ref (s.heap.objs.size + 1)))) { s with heap := enumHeap s.heap t }) :=
  .of_wp fun P1 w1 A1 R1 s1 h1 => by
    obtain ⟨hp, gg, dr, tks, oo⟩ := s1
    obtain ⟨ht, hR⟩ := h1
    have hz : (hp.push { cls := .type "tuple_iterator", data := .fields #[.ref t, .int 0 0] }).objs.size = hp.objs.size + 1 := Heap.size_push ..
    have subE := sub_enumerate
    have isT : Heap.IsTuple (Shared.heap ⟨hp, gg, dr, tks, oo⟩) t xs := ⟨_, ht, rfl, k, rfl⟩
    replace hR : R1 (.ok (.ret (.ref (hp.push { cls := .type "tuple_iterator", data := .fields #[.ref t, .int 0 0] }).objs.size))) ⟨enumHeap hp t, gg, dr, tks, oo⟩ := by rw [hz]; exact hR
    wp_walk using wpAny_loadPart' ht
    refine wpAny_stack_any fun stk => wpAny_pure ?_
    split
    · rename_i cc _ _ _ _ _
      cases (cc == Value.type "enumerate")
      · wp_walk using wpAny_loadPart' ht, wpAny_pyIter_tuple isT
        exact ⟨_, rfl, hR⟩
      · wp_walk using wpAny_loadPart' ht, wpAny_pyIter_tuple isT
        exact ⟨_, rfl, hR⟩
    · wp_walk using wpAny_loadPart' ht, wpAny_pyIter_tuple isT
      exact ⟨_, rfl, hR⟩
theorem enumT_call {P : Program} {w : World} {A : Around} {E : Value → Shared → Prop} {s : Shared} {t : Addr} {xs : Array Value} {Q : Value → Shared → Prop} (hT : s.heap.IsTuple t xs)
    (h : ∀ h', IsEnum h' (s.heap.objs.size + 1) s.heap.objs.size 0 .none → h'.IsTupleIter s.heap.objs.size t 0 → (∀ b o, s.heap.get? b = some o → h'.get? b = some o) → Q (.ref (s.heap.objs.size + 1)) { s with heap := h' }) :
    wpAny (model P w) A (call (.type "enumerate") [.ref t]) Q E s := by
  obtain ⟨⟨cv, dd, dv, sv⟩, ht, hc, k, hd⟩ := hT
  obtain rfl : cv = .type "tuple" := hc
  obtain rfl : dv = .seq xs k := hd
  refine callType_new F.called_enumerate (by decide) (F.typeCall_enumerate_1 _) (F.newCall_enumerate_1 _) (fun ob => F.args_object_init_2 ob _) F.entry_enumerate_new (enumT_meets t xs k dd sv) ⟨ht, ?_⟩
  have hz : (s.heap.push { cls := .type "tuple_iterator", data := .fields #[.ref t, .int 0 0] }).objs.size = s.heap.objs.size + 1 := Heap.size_push ..
  have q1 : IsEnum (enumHeap s.heap t) (s.heap.objs.size + 1) s.heap.objs.size 0 .none := by
    have q := Heap.get?_push_size (s.heap.push { cls := .type "tuple_iterator", data := .fields #[.ref t, .int 0 0] }) (o := { cls := .type "enumerate", data := .fields #[.none, .bool false, .ref s.heap.objs.size, rawInt 0, .none, .none] }) rfl
    rw [hz] at q
    exact q
  exact ⟨⟨_, q1, rfl⟩, h _ q1 ⟨_, Heap.get?_push_of_some _ (Heap.get?_push_size _ rfl), rfl, rfl⟩ fun b o x => Heap.get?_push_of_some _ (Heap.get?_push_of_some _ x)⟩
/-- the tuple at a as it stands, each item in a new pair with its number -/
def IteT (K : PySem.W.Frag) (a : Addr) : It :=
  ⟨fun i H => ∃ (xs : List V) (x : V), SqT K H a xs ∧ xs[i]? = some x, fun i H v H' => ∃ T x, v = .ref T ∧ H T = none ∧ H' = upd H T (.tup [.int (i : Nat), x]) ∧ ∀ xs, SqT K H a xs → xs[i]? = some x, fun i H => ∃ xs : List V, SqT K H a xs ∧ xs.length ≤ i⟩
theorem enumT_turn {P : Program} {w : World} {K : PySem.W.Frag} {elts : List Expr} {kk : Nat} {tpos : Pos} (a e it : Addr) (hai : a ≠ it) (hae : a ≠ e) :
    Turn P w K (.Tuple elts kk tpos) (IteT K a) [e, it] e (fun i h => (∃ old, IsEnum h e it ((i : Nat) : Int) old) ∧ h.IsTupleIter it a i ∧ e ≠ it) where
  mem := List.mem_cons_self
  obj := fun i h st b hb => by
    obtain ⟨⟨old, q1⟩, ⟨o, q2, _, q3⟩, _⟩ := st
    rcases List.mem_cons.mp hb with z | z
    · rw [z]
      exact ⟨_, q1, fun v q => nomatch q⟩
    · rw [List.mem_singleton.mp z]
      exact ⟨o, q2, fun v q => by rw [q3] at q; cases q⟩
  keep := fun i h h' st k => by
    obtain ⟨⟨old, q1⟩, ⟨o, q2, r⟩, q4⟩ := st
    exact ⟨⟨old, k e List.mem_cons_self _ q1⟩, ⟨o, k it (by simp) o q2, r⟩, q4⟩
  item := by
    rintro X rfl rfl rfl hc i pins s σ H E I hf ⟨⟨old, q1⟩, q2, q3⟩ ⟨xs, x, hq, hx⟩
    obtain ⟨its, rv, p, hz⟩ := I.tuple hq
    obtain ⟨u, hu, ru⟩ := rv.get hx
    have hel : e < s.heap.objs.size := Heap.lt_size q1
    have hil : it < s.heap.objs.size := by
      obtain ⟨_, q, _⟩ := q2
      exact Heap.lt_size q
    have tup : s.heap.IsTuple a its.toArray := p
    have hlt : i < its.toArray.size := by
      have z := (List.getElem?_eq_some_iff.mp hu).1
      simpa using z
    have D : Draws X.prog X.w X.A.in1 it [it, a] its.toArray.size (fun i v => its.toArray[i]? = some v) (fun i h => h.IsTupleIter it a i ∧ h.IsTuple a its.toArray) := Draws.tuple (by exact I.ok.hd hc) it a hai its.toArray
    refine wpAny_pyNext_enum_itemD D q1 ⟨q2, tup⟩ hlt q3 (by simp [q3, hae.symm]) fun y h' tk hP ho st' hT hsz hk => ?_
    obtain rfl : y = u := by
      have z : its.toArray[i]? = some u := by simpa using hu
      exact Option.some.inj (hP.symm.trans z)
    refine ⟨_, rfl, wpAny_letOwnedTupleGo_enum (s := { s with heap := h', toks := tk + 1 }) ho fun h2 q5 sb => ?_⟩
    have hT2 : h2.get? s.heap.objs.size = some { cls := .type "tuple", data := .seq #[.int i tk, y] } := (sb.2 _ (Nat.ne_of_gt hel)).trans hT
    have new : ObjOk X.prog X.w (upd H s.heap.objs.size (.tup [.int (i : Nat), x])) h2 s.heap.objs.size (.tup [.int (i : Nat), x]) :=
      ⟨by show 2 ≤ sizeLine; decide, [.int i tk, y], .cons ⟨_, rfl⟩ (.cons ru .nil), ⟨_, hT2, rfl, _, rfl⟩⟩
    have I2 : Inv X pins σ (upd H s.heap.objs.size (.tup [.int (i : Nat), x])) { s with heap := h2, toks := tk + 1 } :=
      I.turnedNew (ch := [e, it]) (fun b ob hb q => (sb.2 b (fun z => hb (by simp [z]))).trans (hk b ob (fun z => hb (by simp [z])) (fun z => hb (by simp [z])) q)) hf (Nat.le_refl _) new
    refine ⟨.ref s.heap.objs.size, _, I2, rfl, ⟨_, x, rfl, I.hok.fresh (Nat.le_refl _), rfl, fun ys hy => by rw [I.tuple_inj hy hq]; exact hx⟩, ⟨⟨y, ?_⟩, ?_, q3⟩, fun b hb => ?_⟩
    · rw [show ((i + 1 : Nat) : Int) = (i : Int) + 1 by omega]
      exact q5
    · obtain ⟨o, z, r⟩ := st'.1
      exact ⟨o, (sb.2 it (Ne.symm q3)).trans z, r⟩
    · have hb2 : b < s.heap.objs.size := by
        rcases List.mem_cons.mp hb with z | z
        · rw [z]; exact hel
        · rw [List.mem_singleton.mp z]; exact hil
      rw [upd_ne (Nat.ne_of_lt hb2)]
      exact (hf b hb).1
  done := by
    rintro X rfl rfl rfl hc i pins s σ H E I hf ⟨⟨old, q1⟩, q2, q3⟩ ⟨xs, hq, hx⟩
    obtain ⟨its, rv, p, hz⟩ := I.tuple hq
    obtain ⟨f0, f1, f2, f3, f4, f5⟩ := hf it (by simp)
    have hl := rv.length
    have tup : s.heap.IsTuple a its.toArray := p
    have hT : s.TypeIs (.ref e) "enumerate" := ⟨_, q1, rfl⟩
    unfold pyNext
    refine wpAny_bind (wpAny_attempt (wpAny_callSpecial?_slot (name := Str.ofString "__next__") hT F.slot_enumerate_next (wpAny_call_entry F.slot_enumerate_next hT F.entry_enumerate_next ?_ (F.args_enumerate_next_1 _))))
    show wpAny _ _ (field (.ref e) 2 >>= _) _ _ _
    refine wpAny_bind (wpAny_field q1 rfl (x := .ref it) rfl ?_)
    refine wpAny_bind (wpAny_nextOf_tuple_end (by exact I.ok.hd hc) q2 tup (by simp; omega) fun h' x eb hx' => ?_)
    obtain ⟨o, ho, hc'⟩ := hx'
    refine wpAny_bind (wpAny_isInstance (T := "StopIteration") (b := true) ⟨o, ho, hc'⟩ isSubtype_stop ?_)
    exact wpAny_pure ⟨rfl, I.turned (t' := s.toks) (fun b o hb q => eb b o hb q) f0 f1 f3 f4 f5⟩
  self := fun A i s Q E st h => wpAny_pyIter_enum st.1.choose_spec h
def iEnumT (K : PySem.W.Frag) (ta : TA) : TI := fun σ H R => ta σ H fun vs H1 => ∃ a xs, vs = [.ref a] ∧ H1 a = some (.tup xs) ∧ R (IteT K a) H1
theorem pi_enumT {X : Cx} {e : Expr} {ta : TA} {p pos tpos : Pos} {elts : List Expr} {kk : Nat} (hg : Gl X "enumerate") (hm : X.mg "enumerate" = none) (ha : PA X [e] ta) (hs : starEach [e] X.env = [(false, eval e X.env)] := by rfl) :
    PI X (.Tuple elts kk tpos) (.Call (.Name "enumerate" p) [e] [] pos) (iEnumT X.K ta) := by
  refine ⟨fun pins s σ H R I h => ?_⟩
  refine Call_ (ld_blt I hg hm boot_enumerate (PyProof.Rows.callWith_type1 (thn (ha.run pos pins s σ H _ I h) fun us s1 ⟨vs, H1, I1, r1, q1⟩ => ?_) hs rfl))
  obtain ⟨a, xs, rfl, hq, q⟩ := q1
  cases r1 with
  | cons r rr =>
    cases rr
    cases r
    obtain ⟨its, rv, p2, hz⟩ := I1.tuple (.inl (.inl hq))
    have tup : s1.heap.IsTuple a its.toArray := p2
    have hal : a < s1.heap.objs.size := p2.lt
    refine enumT_call tup fun h' q1 q2 hk => wpAny_pyIter_enum q1 ?_
    have I2 : Inv X pins σ H1 { s1 with heap := h' } := I1.kept (t' := s1.toks) hk
    refine ⟨s1.heap.objs.size + 1, [s1.heap.objs.size + 1, s1.heap.objs.size], _, _, H1, rfl, I2, enumT_turn a (s1.heap.objs.size + 1) s1.heap.objs.size (Nat.ne_of_lt hal) (Nat.ne_of_lt (Nat.lt_succ_of_lt hal)), ⟨⟨.none, q1⟩, q2, Nat.succ_ne_self _⟩, fun b hb => ?_, q⟩
    have hle : s1.heap.objs.size ≤ b := by
      rcases List.mem_cons.mp hb with z | z
      · rw [z]; exact Nat.le_add_right _ _
      · rw [List.mem_singleton.mp z]; exact Nat.le_refl _
    exact I1.fpOk hle (I1.hok.fresh hle)
end
/-! ### min and sorted of data, nested to any depth -/
section
open PySem.Spec PyProof.Rows
open PySem.W (alike alikeAll dataLt minD AlikeAll AllAlike Sortable EachIs sorted_data min_list_data readsAll_atA alike_unique dataLe)
/-- min(xs), xs a list of data that are alike -/
def rMinD (K : PySem.W.Frag) : List V → Hp → VK → Prop := fun vs H Q => ∃ (a : Addr) (xs : List V) (d : PyData) (ds : List PyData), vs = [V.ref a] ∧ SqL K H a xs ∧ DpAll K H xs (d :: ds) ∧ AlikeAll (d :: ds) ∧ PyData.depthAll (d :: ds) ≤ 60 ∧
  ∀ (i : Nat) x, xs[i]? = some x → (d :: ds)[i]? = some (minD d ds) → Q x H
theorem minD_mem : ∀ (ds : List PyData) (d : PyData), minD d ds ∈ d :: ds
  | [], d => List.mem_cons_self
  | e :: r, d => by
    show minD (if dataLt e d = true then e else d) r ∈ _
    have h := minD_mem r (if dataLt e d = true then e else d)
    rcases List.mem_cons.mp h with z | z
    · rw [z]
      split <;> simp
    · exact List.mem_cons_of_mem _ (List.mem_cons_of_mem _ z)
theorem cr_minD {X : Cx} (hc : X.calm = true) (hu : X.A.units + 65 < cLine) : CallR X (.builtin "min") (rMinD X.K) := by
  intro pins s σ H vs us Q I r h
  obtain ⟨a, xs, d, ds, rfl, hs, hd, ha, hdp, q⟩ := h
  obtain ⟨its, rv, hl, _⟩ := I.list hs
  rw [Vals.ref1 r]
  obtain ⟨as, hr⟩ := Dp.readsAll I (d :: ds) xs its hd rv
  refine min_list_data (I.ok.hd hc) hl.isList hr ha (by omega) fun i v h' tk bs hi rd hk => ?_
  have hi2 : its[i]? = some v := by simpa using hi
  have hil : i < xs.length := by
    rw [rv.length]
    exact (List.getElem?_eq_some_iff.mp hi2).1
  obtain ⟨u, hu2, ru⟩ := rv.get (List.getElem?_eq_getElem hil)
  obtain rfl : u = v := Option.some.inj (hu2.symm.trans hi2)
  obtain ⟨cs, rc, lt, mem, _⟩ := readsAll_atA hr i u hi
  have rd' := Reads.keeps hk rc
  have e : (d :: ds).getD i .none = minD d ds := alike_unique _ _ _ _ _ (ha.1 _ mem _ (minD_mem ds d)) rd' rd
  refine ⟨_, H, I.kept (t' := tk) hk, ru, q i _ (List.getElem?_eq_getElem hil) ?_⟩
  rw [← e, List.getD_eq_getElem?_getD, List.getElem?_eq_getElem lt]
  rfl
/-- sorted(xs), xs a list of data that are alike: a new list; R: what is known of each item -/
def rSortedD {β : Type} (enc : β → PyData) (K : PySem.W.Frag) : List V → Hp → VK → Prop := fun vs H Q => ∃ (a : Addr) (xs : List V) (bs : List β) (R : V → β → Prop), vs = [V.ref a] ∧ SqL K H a xs ∧ Paired R xs bs ∧ DpAll K H xs (bs.map enc) ∧ AllAlike (bs.map enc) ∧ Sortable (bs.map enc) ∧ (∀ b ∈ bs, (enc b).depth ≤ 60) ∧
  ∀ ys p, Paired R ys (bs.mergeSort (dataLe false enc)) → H p = none → Q (.ref p) (L2.upd H p (.lst ys))
theorem each_pairs {β : Type} {R : Value → β → Prop} {F : V → β → Prop} (h : ∀ v b, R v b → ∃ x, RelV x v ∧ F x b) : ∀ {out : List Value} {bs : List β}, EachIs R out bs → ∃ ys, Vals ys out ∧ Paired F ys bs
  | _, _, .nil => ⟨[], .nil, .nil⟩
  | _, _, .cons r t => by
    obtain ⟨ys, h1, h2⟩ := each_pairs h t
    obtain ⟨x, h3, h4⟩ := h _ _ r
    exact ⟨x :: ys, .cons h3 h1, .cons h4 h2⟩
theorem each_of {β : Type} {K : PySem.W.Frag} {H : Hp} {enc : β → PyData} {R : V → β → Prop} {R' : Value → β → Prop} : ∀ {xs : List V} {us : List Value} {bs : List β}, Vals xs us → Paired R xs bs → DpAll K H xs (bs.map enc) → (∀ x u b, RelV x u → R x b → Dp K H x (enc b) → R' u b) → EachIs R' us bs
  | _, _, [], rv, hr, hd, _ => by
    cases hd
    cases rv
    exact .nil
  | _, _, b :: bs, rv, hr, hd, h => by
    cases hd with
    | cons q t =>
      cases rv with
      | cons r rt =>
        cases hr with
        | cons p pt => exact .cons (h _ _ _ r p q) (each_of rt pt t h)
theorem cr_sortedD {β : Type} {X : Cx} (enc : β → PyData) (hu : X.A.units + 65 < cLine) : CallR X (.builtin "sorted") (rSortedD enc X.K) := by
  intro pins s σ H vs us Q I r h
  obtain ⟨a, xs, bs, R, rfl, hs, hR, hd, hal, hk, hdp, q⟩ := h
  obtain ⟨its, rv, hl, hz⟩ := I.list hs
  rw [Vals.ref1 r]
  have e1 : EachIs (fun v b => ∃ x, RelV x v ∧ R x b) its bs := each_of rv hR hd fun x u b hr hx _ => ⟨x, hr, hx⟩
  have e2 : EachIs (fun v b => ∃ as, Reads s.heap v (enc b) as) its bs := each_of rv hR hd fun x u b hr _ hd => Dp.reads I _ _ _ hd hr
  have hl2 := e1.length
  refine sorted_data hl.isList e1 e2 hal hk (by rw [← hl2, ← rv.length]; exact hz) (fun b hb => by have := hdp b hb; omega) fun out ho eo => ?_
  obtain ⟨ys, h1, h2⟩ := each_pairs (F := R) (fun v b ⟨x, a1, a2⟩ => ⟨x, a1, a2⟩) eo
  obtain ⟨ep, he'⟩ := PyProof.Rows.sortedAll_at s.heap its out.toArray
  have hlen : ys.length ≤ sizeLine := by
    rw [h1.length, ho, ← hl2, ← rv.length]
    exact hz
  exact ⟨.ref _, L2.upd H (s.heap.objs.size + 1) (.lst ys), I.laid (t' := s.toks) (fun _ _ => PyProof.Rows.sortedAll_old) (Nat.le_succ _) ⟨hlen, out, ep, h1, he'⟩, rfl, q ys _ h2 (I.hok.fresh (Nat.le_succ _))⟩
end
/-! ### xs.count(x), x data of any depth -/
section
open PySem.Spec PyProof.Rows
def rCntD (K : PySem.W.Frag) : V → List V → Hp → VK → Prop := fun x xs H Q => ∃ (a : Addr) (ys : List V) (y : V) (d : PyData) (ds : List PyData), x = V.ref a ∧ xs = [y] ∧ SqL K H a ys ∧ DpAll K H ys ds ∧ Dp K H y d ∧ PyData.plainAll ds = true ∧ d.plain = true ∧ d.depth ≤ 60 ∧ Q (.int ((ds.countP fun z => PyData.eqv z d : Nat) : Int)) H
theorem mt_countD {X : Cx} (hu : X.A.units + 65 < cLine) : MtR X "list.count" (rCntD X.K) := by
  intro pins s σ H x xs v us Q I rx rxs h
  obtain ⟨a, ys, y, d, ds, rfl, rfl, hl, hds, hd, p1, p2, hdp, q⟩ := h
  cases rx
  cases rxs with
  | cons ry rt =>
    rename_i uy ut
    cases rt
    obtain ⟨bs, r1⟩ := Dp.reads I d y uy hd ry
    obtain ⟨its, rv, hL, _⟩ := I.list hl
    obtain ⟨as, hr⟩ := Dp.readsAll I ds ys its hds rv
    refine PySem.SeqAt.count_list_data hL.isList hr r1 p1 p2 (by omega) ⟨.int _, H, I.tok _, ⟨_, rfl⟩, q⟩
end
/-! ### max(xs, default=d), xs a list of ints -/
section
open PySem.Spec PyProof.Rows
open PySem.W (alike alikeAll dataLt maxD AlikeAll max_list_default)
def rMaxDef (K : PySem.W.Frag) : List V → List V → Hp → VK → Prop := fun vs zs H Q => ∃ (a : Addr) (ns : List Int) (d : V), vs = [V.ref a] ∧ zs = [d] ∧ SqL K H a (ns.map V.int) ∧ (ns = [] → Q d H) ∧ ∀ m, m ∈ ns → (∀ y, y ∈ ns → y ≤ m) → Q (.int m) H
def maxI (x : Int) (xs : List Int) : Int := xs.foldl (fun a y => if a < y then y else a) x
theorem maxI_spec : ∀ (xs : List Int) (x : Int), maxI x xs ∈ x :: xs ∧ ∀ y ∈ x :: xs, y ≤ maxI x xs
  | [], x => ⟨List.mem_cons_self, fun y hy => by rw [List.mem_singleton.mp hy]; exact Int.le_refl _⟩
  | z :: r, x => by
    obtain ⟨h1, h2⟩ := maxI_spec r (if x < z then z else x)
    have e : maxI x (z :: r) = maxI (if x < z then z else x) r := rfl
    rw [e]
    have h3 := h2 _ List.mem_cons_self
    refine ⟨?_, fun y hy => ?_⟩
    · rcases List.mem_cons.mp h1 with q | q
      · rw [q]
        split <;> simp
      · exact List.mem_cons_of_mem _ (List.mem_cons_of_mem _ q)
    · rcases List.mem_cons.mp hy with q | q
      · rw [q]
        split at h3 <;> rename_i c
        · rw [if_pos c]; omega
        · rw [if_neg c]; omega
      · rcases List.mem_cons.mp q with q | q
        · rw [q]
          split at h3 <;> rename_i c
          · rw [if_pos c]; omega
          · rw [if_neg c]; omega
        · exact h2 y (List.mem_cons_of_mem _ q)
theorem maxD_int : ∀ (xs : List Int) (x : Int), maxD (.int x) (xs.map PyData.int) = .int (maxI x xs)
  | [], x => rfl
  | y :: ys, x => by
    show maxD (if dataLt (.int x) (.int y) = true then .int y else .int x) (ys.map PyData.int) = .int (maxI (if x < y then y else x) ys)
    rw [PySem.W.dataLt_int]
    by_cases c : x < y
    · rw [if_pos (decide_eq_true c), if_pos c]
      exact maxD_int ys y
    · rw [if_neg (by rw [decide_eq_false c]; exact Bool.false_ne_true), if_neg c]
      exact maxD_int ys x
theorem ints_dp {K : PySem.W.Frag} {H : Hp} : ∀ ns : List Int, DpAll K H (ns.map V.int) (ns.map PyData.int)
  | [] => .nil
  | n :: ns => .cons (.int _) (ints_dp ns)
theorem ints_alike (ns : List Int) : AlikeAll (ns.map PyData.int) := by
  refine ⟨fun x hx y hy => ?_, fun x hx => ?_⟩
  · obtain ⟨s, _, rfl⟩ := List.mem_map.mp hx
    obtain ⟨t, _, rfl⟩ := List.mem_map.mp hy
    simp [alike]
  · obtain ⟨s, _, rfl⟩ := List.mem_map.mp hx
    intro e
    cases e
theorem ints_depth : ∀ ns : List Int, PyData.depthAll (ns.map PyData.int) = 0
  | [] => by simp [PyData.depthAll]
  | n :: ns => by simp [PyData.depthAll, PyData.depth, ints_depth ns]
theorem cr_maxDef {X : Cx} (hc : X.calm = true) (hu : X.A.units + 65 < cLine) : CallRK X (.builtin "max") [Str.ofString "default"] (rMaxDef X.K) := by
  intro pins s σ H vs zs us ws Q I r rz h
  obtain ⟨a, ns, d, rfl, rfl, hs, q0, q⟩ := h
  obtain ⟨its, rv, hl, _⟩ := I.list hs
  rw [Vals.ref1 r]
  cases rz with
  | cons rd rt =>
    cases rt
    rename_i dv
    obtain ⟨as, hr⟩ := Dp.readsAll I (ns.map PyData.int) (ns.map V.int) its (ints_dp ns) rv
    refine max_list_default (I.ok.hd hc) hl.isList hr (ints_alike ns) (by rw [ints_depth]; omega) (fun e h' tk hk => ?_) fun y ys i v h' tk bs e hi rd' hk => ?_
    · exact ⟨d, H, I.kept (t' := tk) hk, rd, q0 (List.map_eq_nil_iff.mp e)⟩
    · cases ns with
      | nil => cases e
      | cons n ns =>
        rw [List.map_cons] at e
        injection e with e1 e2
        subst e1
        subst e2
        rw [maxD_int] at rd'
        obtain ⟨m1, m2⟩ := maxI_spec ns n
        have hi2 : its[i]? = some v := by simpa using hi
        have hil : i < (List.map V.int (n :: ns)).length := by
          rw [rv.length]
          exact (List.getElem?_eq_some_iff.mp hi2).1
        obtain ⟨u, hu2, ru⟩ := rv.get (List.getElem?_eq_getElem hil)
        obtain rfl : u = v := Option.some.inj (hu2.symm.trans hi2)
        cases rd'
        exact ⟨.int _, H, I.kept (t' := tk) hk, ⟨_, rfl⟩, q _ m1 m2⟩
end
/-! ### d.values(), list(d.values()) of a dict whose keys are tuples -/
section
open PySem.Spec PyProof.Rows
/-- the view d.values() at p -/
def valsO (p d : Addr) : HO := .ext fun h => h.IsValuesView p d
theorem valsO_ok {P : Program} {w : World} {H : Hp} {h : Heap} {p d : Addr} (e : h.get? p = some { cls := .type "dict_values", data := .fields #[.ref d] }) : ObjOk P w H h p (valsO p d) :=
  ⟨⟨_, e, rfl, rfl⟩, ⟨_, e⟩, fun h1 h2 x k => let ⟨o, ho, r⟩ := x; ⟨o, k o ho, r⟩⟩
variable {X : Cx}
def rValuesT : V → List V → Hp → VK → Prop := fun x xs H Q => ∃ (a : Addr) (kvs : List (List L2.Key × V)), x = .ref a ∧ xs = [] ∧ H a = some (.dT kvs) ∧ ∀ p, H p = none → Q (.ref p) (L2.upd H p (valsO p a))
theorem mt_valuesT : MtR X "dict.values" rValuesT := by
  intro pins s σ H x xs v us Q I rx rxs h
  obtain ⟨a, kvs, rfl, rfl, ha, q⟩ := h
  cases rx
  cases rxs
  obtain ⟨z, hd, xs', rel, o, es, ep, ho, hx, hdat, _⟩ := dt_of I.hok ha
  have raw : s.heap.DictRaw a es ep := ⟨o, ho, hx, hdat⟩
  refine call_meetsIn PySem.F.slot_dict_values raw.typeIs PySem.F.entry_dict_values (PySem.F.args_dict_values_1 _) (PySem.meets_dict_values_raw a hd) ⟨⟨es, ep, raw⟩, ?_⟩
  have hf : H s.heap.objs.size = none := I.hok.fresh (Nat.le_refl _)
  exact ⟨.ref s.heap.objs.size, L2.upd H s.heap.objs.size (valsO s.heap.objs.size a), I.laid (t' := s.toks) (fun b u e => Heap.get?_push_of_some _ e) (Nat.le_refl _) (valsO_ok (Heap.get?_push_size _ rfl)), rfl, q _ hf⟩
theorem kt_vals {H : Hp} : ∀ {kvs : List (List L2.Key × V)} {xs : List (List L2.Key × Addr × Value)}, KT H kvs xs → Vals (kvs.map (·.2)) (xs.map fun x => x.2.2)
  | _, _, .nil => .nil
  | _, _, .cons h t => .cons h.2.2 (kt_vals t)
theorem call_list_valuesT (hc : X.calm = true) : CallR X (.type "list") (fun xs H Q => ∃ (v d : Addr) (kvs : List (List L2.Key × V)), xs = [V.ref v] ∧ H v = some (valsO v d) ∧ H d = some (.dT kvs) ∧ ∀ p, H p = none → Q (.ref p) (L2.upd H p (.lst (kvs.map (·.2))))) := by
  intro pins s σ H xs us Q I r h
  obtain ⟨v, d, kvs, rfl, hv, hd, q⟩ := h
  obtain ⟨u, rfl, rx⟩ := r.one
  cases rx
  obtain ⟨z, hs, ks, pr, o, es, ep, ho, hx, hdt, he, hn⟩ := dt_of I.hok hd
  have hvv : s.heap.IsValuesView v d := (show ObjOk X.prog X.w H s.heap v (valsO v d) from I.hok v _ hv).1
  have raw : s.heap.DictRaw d es ep := ⟨o, ho, hx, hdt⟩
  have l1 : es.size = ks.length := size_of_entries he
  have l2 : kvs.length = ks.length := Paired.length pr
  refine PySem.W.kdl_call PySem.KdlSrc.rawValues (I.ok.hd hc) ⟨hvv, raw⟩ (by omega) fun h' tk acc' c' kp e it => ?_
  have ea : acc'.toList = ks.map fun x => x.2.2 := by
    have hl : acc'.toList.length = ks.length := by rw [Array.length_toList, it.1]; exact l1
    apply List.ext_getElem?
    intro j
    rw [List.getElem?_map]
    cases hj : acc'.toList[j]? with
    | none =>
      have h1 := List.getElem?_eq_none_iff.mp hj
      rw [List.getElem?_eq_none (by omega)]
      all_goals rfl
    | some v =>
      obtain ⟨hi, hv⟩ := it.2 j v (by rw [← Array.getElem?_toList]; exact hj)
      have qe := entry_at he j
      rw [Array.getElem?_eq_getElem hi] at qe
      cases hb : ks[j]? with
      | none =>
        rw [hb] at qe
        exact nomatch (show some es[j] = none from qe)
      | some b =>
        rw [hb] at qe
        have e2 : es[j] = entryOfKey (tupleKind (mixKind X.prog X.w)) b := Option.some.inj qe
        rw [hv, e2]
        all_goals rfl
  have rv : Vals (kvs.map (·.2)) acc'.toList := by
    rw [ea]
    exact kt_vals pr
  have hz : (kvs.map (·.2)).length ≤ sizeLine := by rw [List.length_map]; omega
  refine ⟨.ref s.heap.objs.size, _, I.laid (t' := tk) (o := .lst (kvs.map (·.2))) kp (Nat.le_refl _) ?_, rfl, q _ (I.hok.fresh (Nat.le_refl _))⟩
  exact ⟨hz, acc'.toList, c', rv, by rw [Array.toArray_toList]; exact e⟩
end
/-! ### xs * k of a tuple, k 0 or 1 -/
section
open PySem.Spec PyProof.Rows
theorem tuple_mul1 (l : Addr) (items : Array Value) (n : Nat) (dd : Option Addr) (sl : Array (Option Value)) (u : Tok) :
    Meets (Builtin.«tuple.__mul__» ⟨[.ref l, .int 1 u], []⟩) (fun _ R s => s.heap.get? l = some { cls := .type "tuple", dict := dd, data := .seq items n, slots := sl } ∧ R (.ok (.ret (.ref l))) s) :=
  .of_wp fun prog w A R s h => by
    obtain ⟨hp, g, d, tk, os⟩ := s
    obtain ⟨hl, h⟩ := h
    have f1 := AutoSeq1.idx_int
    have c1 : (items.isEmpty || (1 : Int) == 1) = true := by rw [Bool.or_eq_true]; exact .inr rfl
    wp_walk using wpAny_loadPart' hl
    repeat (first
      | (refine wpAny_ite_false (decide_eq_false (by decide)) ?_; wp_walk using wpAny_loadPart' hl)
      | (refine wpAny_ite_true (decide_eq_true c1) ?_; wp_walk using wpAny_loadPart' hl))
    exact ⟨_, rfl, h⟩
theorem tuple_mul0 (l : Addr) (items : Array Value) (n : Nat) (dd : Option Addr) (sl : Array (Option Value)) (u : Tok) (hi : items.isEmpty = false) :
    Meets (Builtin.«tuple.__mul__» ⟨[.ref l, .int 0 u], []⟩) (fun _ R s => s.heap.get? l = some { cls := .type "tuple", dict := dd, data := .seq items n, slots := sl } ∧ R (.ok (.ret (.ref s.heap.objs.size))) { s with heap := s.heap.push { cls := Value.type "tuple", data := Data.seq #[] }, toks := s.toks }) :=
  .of_wp fun prog w A R s h => by
    obtain ⟨hp, g, d, tk, os⟩ := s
    obtain ⟨hl, h⟩ := h
    have f1 := AutoSeq1.idx_int
    have c1 : ¬ (items.isEmpty || (0 : Int) == 1) = true := by rw [hi]; decide
    have c2 : (decide ((0 : Int) ≤ 0) || items.isEmpty) = true := by rw [hi]; decide
    wp_walk using wpAny_loadPart' hl
    repeat (first
      | (refine wpAny_ite_false (decide_eq_false (by decide)) ?_; wp_walk using wpAny_loadPart' hl)
      | (refine wpAny_ite_false (decide_eq_false c1) ?_; wp_walk using wpAny_loadPart' hl)
      | (refine wpAny_ite_true (decide_eq_true c2) ?_; wp_walk using wpAny_loadPart' hl))
    exact ⟨_, rfl, h⟩
def rRep01 (K : PySem.W.Frag) : R2 := fun x y H Q => ∃ l k xs, x = .ref l ∧ y = .int k ∧ SqT K H l xs ∧ xs ≠ [] ∧ (k = 0 ∨ k = 1) ∧ (k = 1 → Q (.ref l) H) ∧ (k = 0 → ∀ p, H p = none → Q (.ref p) (L2.upd H p (.tup [])))
theorem op_rep01 {X : Cx} : OpR X (binaryOp .Mult) (rRep01 X.K) := by
  intro pins s σ H x y v u Q I rx ry h
  obtain ⟨l, k, xs, rfl, rfl, hT, hne, hk, q1, q0⟩ := h
  cases rx
  obtain ⟨t, rfl⟩ := ry
  obtain ⟨its, r, ⟨⟨cls, dd, data, sl⟩, ho, hc, n, hd⟩, hs⟩ := I.tuple hT
  simp only at hc hd
  subst hc hd
  have hn : its ≠ [] := fun e => hne (by
    have := r.length
    rw [e] at this
    exact List.eq_nil_of_length_eq_zero this)
  have hi : its.toArray.isEmpty = false := by
    cases its with
    | nil => exact absurd rfl hn
    | cons a b => rfl
  rcases hk with rfl | rfl
  · refine wpAny_binaryOp_repeat_ref (T := "tuple") (U := "int") (by decide) ⟨_, ho, rfl⟩ (fun s' => typeIs_int s' 0 t) noFill_tuple_mul PySem.F.fills_int_mul PySem.F.slot_int_rmul repeat_tuple PySem.F.slot_int_index.lookup
      (call_meets PySem.F.slot_int_rmul (typeIs_int s 0 t) PySem.F.entry_int_rmul (PySem.F.args_int_rmul_2 _ _) (int_rmul_tuple 0 t l its.toArray n dd sl)
        ⟨ho, rfl, ⟨_, ho, rfl⟩, call_meets PySem.F.slot_tuple_mul ⟨_, ho, rfl⟩ PySem.F.entry_tuple_mul (PySem.F.args_tuple_mul_2 _ _) (tuple_mul0 l its.toArray n dd sl t hi) ⟨ho, ?_⟩⟩)
    refine ⟨.ref s.heap.objs.size, _, I.laid (t' := s.toks) (o := .tup []) (fun b ob q => Heap.get?_push_of_some _ q) (Nat.le_refl _) ?_, rfl, q0 rfl _ (I.hok.fresh (Nat.le_refl _))⟩
    exact ⟨Nat.zero_le _, [], .nil, IsTup.new _ _⟩
  · refine wpAny_binaryOp_repeat_ref (T := "tuple") (U := "int") (by decide) ⟨_, ho, rfl⟩ (fun s' => typeIs_int s' 1 t) noFill_tuple_mul PySem.F.fills_int_mul PySem.F.slot_int_rmul repeat_tuple PySem.F.slot_int_index.lookup
      (call_meets PySem.F.slot_int_rmul (typeIs_int s 1 t) PySem.F.entry_int_rmul (PySem.F.args_int_rmul_2 _ _) (int_rmul_tuple 1 t l its.toArray n dd sl)
        ⟨ho, rfl, ⟨_, ho, rfl⟩, call_meets PySem.F.slot_tuple_mul ⟨_, ho, rfl⟩ PySem.F.entry_tuple_mul (PySem.F.args_tuple_mul_2 _ _) (tuple_mul1 l its.toArray n dd sl t) ⟨ho, ?_⟩⟩)
    exact ⟨.ref l, H, I, rfl, q1 rfl⟩
end
/-! ### a comprehension over two ranges -/
theorem lc2_rng {lo : Int} {n : Nat} {g : TG} {tt tt1 : TT} {wi1 : TI} {g1 : TG} {te : TE} {vs vs1 : List Nat} {σ : L2.St} {H1 : Hp} {D : Addr} {Qd : Hp → Prop} (Pv : Nat → Hp → Prop) (h0 : Pv 0 (upd H1 D (.lst [])))
    (hs : ∀ i H, i < n → Pv i H → g (.int (lo + i)) (wipe σ vs) H fun σ2 H2 => wipe σ2 vs = wipe σ vs ∧ tt σ2 H2 fun b H3 =>
      if b = true then wi1 σ2 H3 fun J1 H4 => ∃ W1 : Nat → Nat → Hp → Prop, (∃ m, W1 0 m H4) ∧ ∀ j k H, W1 j k H →
          (J1.stop j H ∧ Pv (i + 1) H) ∨ (J1.go j H ∧ ∃ Nx1 : Hp → Prop, (∀ H', Nx1 H' → ∃ k', k' < k ∧ W1 (j + 1) k' H') ∧ ∀ x H', J1.yld j H x H' → g1 x (wipe σ2 vs1) H' fun σ3 H5 => wipe σ3 vs1 = wipe σ2 vs1 ∧ tt1 σ3 H5 fun b H6 =>
            if b = true then te σ3 H6 fun y H7 => ∃ acc, H7 D = some (.lst acc) ∧ acc.length < sizeLine ∧ Nx1 (upd H7 D (.lst (acc ++ [y]))) else Nx1 H6)
      else Pv (i + 1) H3) (hd : ∀ H, Pv n H → Qd H) :
    ∃ W : Nat → Nat → Hp → Prop, (∃ m, W 0 m (upd H1 D (.lst []))) ∧ ∀ i m H, W i m H →
      ((Itr lo n).stop i H ∧ Qd H) ∨ ((Itr lo n).go i H ∧ ∃ Nx : Hp → Prop, (∀ H', Nx H' → ∃ m', m' < m ∧ W (i + 1) m' H') ∧ ∀ x H', (Itr lo n).yld i H x H' → g x (wipe σ vs) H' fun σ2 H2 => wipe σ2 vs = wipe σ vs ∧ tt σ2 H2 fun b H3 =>
        if b = true then wi1 σ2 H3 fun J1 H4 => ∃ W1 : Nat → Nat → Hp → Prop, (∃ m, W1 0 m H4) ∧ ∀ j k H, W1 j k H →
          (J1.stop j H ∧ Nx H) ∨ (J1.go j H ∧ ∃ Nx1 : Hp → Prop, (∀ H', Nx1 H' → ∃ k', k' < k ∧ W1 (j + 1) k' H') ∧ ∀ x H', J1.yld j H x H' → g1 x (wipe σ2 vs1) H' fun σ3 H5 => wipe σ3 vs1 = wipe σ2 vs1 ∧ tt1 σ3 H5 fun b H6 =>
            if b = true then te σ3 H6 fun y H7 => ∃ acc, H7 D = some (.lst acc) ∧ acc.length < sizeLine ∧ Nx1 (upd H7 D (.lst (acc ++ [y]))) else Nx1 H6)
        else Nx H3) := by
  refine ⟨fun i m H => m = n - i ∧ i ≤ n ∧ Pv i H, ⟨n, by simp, Nat.zero_le _, h0⟩, ?_⟩
  rintro i m H ⟨rfl, hi, p⟩
  by_cases hlt : i < n
  · refine .inr ⟨hlt, Pv (i + 1), fun H' p' => ⟨n - (i + 1), by omega, rfl, hlt, p'⟩, fun x H' y => ?_⟩
    obtain ⟨e, y⟩ := y
    subst e y
    exact hs i _ hlt p
  · have e : i = n := by omega
    subst e
    exact .inl ⟨Nat.le_refl _, hd H p⟩
theorem in_rng {lo : Int} {n : Nat} {g1 : TG} {tt1 : TT} {te : TE} {vs1 : List Nat} {σ2 : L2.St} {H4 : Hp} {D : Addr} {Nx : Hp → Prop} (Pv : Nat → Hp → Prop) (h0 : Pv 0 H4)
    (hs : ∀ i H, i < n → Pv i H → g1 (.int (lo + i)) (wipe σ2 vs1) H fun σ3 H5 => wipe σ3 vs1 = wipe σ2 vs1 ∧ tt1 σ3 H5 fun b H6 =>
      if b = true then te σ3 H6 fun y H7 => ∃ acc, H7 D = some (.lst acc) ∧ acc.length < sizeLine ∧ Pv (i + 1) (upd H7 D (.lst (acc ++ [y]))) else Pv (i + 1) H6) (hd : ∀ H, Pv n H → Nx H) :
    ∃ W1 : Nat → Nat → Hp → Prop, (∃ m, W1 0 m H4) ∧ ∀ j k H, W1 j k H →
      ((Itr lo n).stop j H ∧ Nx H) ∨ ((Itr lo n).go j H ∧ ∃ Nx1 : Hp → Prop, (∀ H', Nx1 H' → ∃ k', k' < k ∧ W1 (j + 1) k' H') ∧ ∀ x H', (Itr lo n).yld j H x H' → g1 x (wipe σ2 vs1) H' fun σ3 H5 => wipe σ3 vs1 = wipe σ2 vs1 ∧ tt1 σ3 H5 fun b H6 =>
        if b = true then te σ3 H6 fun y H7 => ∃ acc, H7 D = some (.lst acc) ∧ acc.length < sizeLine ∧ Nx1 (upd H7 D (.lst (acc ++ [y]))) else Nx1 H6) := by
  refine ⟨fun i m H => m = n - i ∧ i ≤ n ∧ Pv i H, ⟨n, by simp, Nat.zero_le _, h0⟩, ?_⟩
  rintro i m H ⟨rfl, hi, p⟩
  by_cases hlt : i < n
  · refine .inr ⟨hlt, Pv (i + 1), fun H' p' => ⟨n - (i + 1), by omega, rfl, hlt, p'⟩, fun x H' y => ?_⟩
    obtain ⟨e, y⟩ := y
    subst e y
    exact hs i _ hlt p
  · have e : i = n := by omega
    subst e
    exact .inl ⟨Nat.le_refl _, hd H p⟩
/-! ### plain mathematics: orders, the first valid one, ways -/
structure Od where
  s : Nat
  t : Nat
  f : Nat
  n : Nat
  e : Nat
def Od.vs (o : Od) : List V := [.int o.s, .int o.t, .int o.f, .int o.n, .int o.e]
structure OdOk (p h : Nat) (o : Od) : Prop where
  s : o.s < h
  t : o.t < h
  st : o.s ≠ o.t
  f : o.f < p
  n1 : 1 ≤ o.n
  n : o.n ≤ p
  e1 : 1 ≤ o.e
  e : o.e ≤ 9
/-- the order o is valid on the day d of a net of period p -/
def onDay (p : Nat) (o : Od) (d : Int) : Bool := decide ((d - (o.f : Int)) % (p : Int) < (o.n : Int))
def hit (p : Nat) (s : Nat) (d : Int) (o : Od) : Bool := decide (o.s = s) && onDay p o d
/-- the number of the order that is followed -/
def idx (p : Nat) (os : List Od) (s : Nat) (d : Int) : Option Nat := os.findIdx? (hit p s d)
def optV : Option Nat → V
  | none => .non
  | some k => .int k
theorem optV_flat (o : Option Nat) : flatV (optV o) = true := by cases o <;> rfl
theorem idx_mod (p : Nat) (os : List Od) (s : Nat) (d : Int) : idx p os s (d % (p : Int)) = idx p os s d := by
  unfold idx
  congr 1
  funext o
  unfold hit onDay
  rw [Int.emod_sub_emod]
theorem idx_nat (p : Nat) (os : List Od) (s d : Nat) : idx p os s ((d % p : Nat) : Int) = idx p os s (d : Int) := by
  rw [Int.natCast_emod]
  exact idx_mod p os s d
theorem idx_later (p : Nat) (os : List Od) (s d k : Nat) : idx p os s ((d + p * k : Nat) : Int) = idx p os s (d : Int) := by
  rw [← idx_nat p os s (d + p * k), Nat.add_mul_mod_self_left, idx_nat]
theorem idx_lt {p : Nat} {os : List Od} {s k : Nat} {d : Int} (h : idx p os s d = some k) : k < os.length := by
  unfold idx at h
  exact (List.findIdx?_eq_some_iff_getElem.mp h).1
theorem idx_take_succ {p : Nat} {os : List Od} {s k : Nat} {d : Int} {o : Od} (h : os[k]? = some o) :
    idx p (os.take (k + 1)) s d = (idx p (os.take k) s d).or (if hit p s d o = true then some k else none) := by
  obtain ⟨hk, ho⟩ := List.getElem?_eq_some_iff.mp h
  unfold idx
  rw [List.take_add_one, h, Option.toList_some, List.findIdx?_append, List.findIdx?_singleton]
  have hl : (os.take k).length = k := by rw [List.length_take]; omega
  rw [hl]
  cases hh : hit p s d o with
  | true => simp
  | false => simp
/-- which days of the period are among the first l days of an order -/
def among (p f l d : Nat) : Prop := ∃ j, j < l ∧ (f + j) % p = d
theorem among_zero (p f d : Nat) : ¬ among p f 0 d := fun ⟨_, h, _⟩ => absurd h (Nat.not_lt_zero _)
theorem among_succ {p f l d : Nat} : among p f (l + 1) d ↔ among p f l d ∨ (f + l) % p = d := by
  constructor
  · rintro ⟨j, hj, e⟩
    by_cases z : j = l
    · subst z
      exact .inr e
    · exact .inl ⟨j, by omega, e⟩
  · rintro (⟨j, hj, e⟩ | e)
    · exact ⟨j, by omega, e⟩
    · exact ⟨l, by omega, e⟩
theorem among_on {p h d : Nat} {o : Od} (k : OdOk p h o) (hd : d < p) : among p o.f o.n d ↔ onDay p o (d : Int) = true := by
  unfold onDay
  rw [decide_eq_true_iff]
  have kf := k.f
  have kn := k.n
  have key : ((d : Int) - (o.f : Int)) % (p : Int) = if o.f ≤ d then (d : Int) - o.f else (d : Int) - o.f + p := by
    split
    · exact Int.emod_eq_of_lt (by omega) (by omega)
    · rw [← Int.add_emod_right]
      exact Int.emod_eq_of_lt (by omega) (by omega)
  rw [key]
  constructor
  · rintro ⟨j, hj, e⟩
    by_cases q : o.f + j < p
    · rw [Nat.mod_eq_of_lt q] at e
      rw [if_pos (by omega)]
      omega
    · have e2 : (o.f + j) % p = o.f + j - p := by
        rw [Nat.mod_eq_sub_mod (by omega), Nat.mod_eq_of_lt (by omega)]
      rw [e2] at e
      split
      · omega
      · omega
  · intro q
    by_cases c : o.f ≤ d
    · rw [if_pos c] at q
      exact ⟨d - o.f, by omega, by rw [show o.f + (d - o.f) = d by omega]; exact Nat.mod_eq_of_lt hd⟩
    · rw [if_neg c] at q
      refine ⟨d + p - o.f, by omega, ?_⟩
      rw [show o.f + (d + p - o.f) = d + p by omega, Nat.add_mod_right]
      exact Nat.mod_eq_of_lt hd
/-- one hop of a letter at a house on a day -/
def hop (p : Nat) (os : List Od) (st : Nat × Nat) : Option (Nat × Nat) :=
  match idx p os st.1 (st.2 : Int) with
  | none => none
  | some k => (os[k]?).map fun o => (o.t, st.2 + o.e)
/-- the first n stops of a letter -/
def way (p : Nat) (os : List Od) : Nat → Nat × Nat → List (Nat × Nat)
  | 0, _ => []
  | n + 1, st => st :: match hop p os st with
    | none => []
    | some st' => way p os n st'
/-! ### heaps -/
/-- all but what stands at d is as it was -/
def But (d : Addr) (H H' : Hp) : Prop := ∀ b o, b ≠ d → H b = some o → H' b = some o
theorem But.refl {d : Addr} {H : Hp} : But d H H := fun _ _ _ e => e
theorem But.trans {d : Addr} {H H1 H2 : Hp} (a : But d H H1) (b : But d H1 H2) : But d H H2 := fun c o n e => b c o n (a c o n e)
theorem But.of {d : Addr} {H H' : Hp} (s : Same H H') : But d H H' := fun b o _ e => s b o e
theorem But.upd {d : Addr} {H : Hp} {o : HO} : But d H (upd H d o) := fun b u n e => by rw [upd_ne n]; exact e
theorem same_upd {H : Hp} {p : Addr} {o : HO} (h : H p = none) : Same H (L2.upd H p o) := fun b x e => by
  rw [upd_ne (ne_of_none e h)]
  exact e
theorem same_updN {H H' : Hp} {p : Addr} {o : HO} (s : Same H H') (h : H p = none) : Same H (L2.upd H' p o) := fun b x e => by
  rw [upd_ne (ne_of_none e h)]
  exact s b x e
theorem But.new {d p : Addr} {H : Hp} {o : HO} (h : H p = none) : But d H (L2.upd H p o) := But.of (same_upd h)
theorem But.free {d p : Addr} {H H' : Hp} {o : HO} (s : But d H H') (hd : H' d = some o) (h : H' p = none) : H p = none := by
  cases q : H p with
  | none => rfl
  | some u =>
    by_cases e : p = d
    · rw [e, hd] at h
      cases h
    · rw [s p u e q] at h
      cases h
/-- the tail of ints of the source of numbers -/
def DL (s c : Nat) (r : List Nat) : List V := .int s :: .int c :: r.map fun (n : Nat) => V.int (n : Int)
def DAt (H : Hp) (d : Addr) : Prop := ∃ s c r, s < 2147483647 ∧ r.length ≤ 63 ∧ H d = some (.lst (DL s c r))
theorem DAt.but {H H' : Hp} {d : Addr} (h : DAt H d) (s : Same H H') : DAt H' d := by
  obtain ⟨a, b, c, h1, h2, h3⟩ := h
  exact ⟨a, b, c, h1, h2, s _ _ h3⟩
theorem DAt.som {H : Hp} {d : Addr} (h : DAt H d) : ∃ o, H d = some o := by
  obtain ⟨a, b, c, h1, h2, h3⟩ := h
  exact ⟨_, h3⟩
theorem dl0 {s c : Nat} {r : List Nat} : atI (DL s c r) 0 = some (.int s) := atI_nat (j := 0) rfl
theorem dl1 {s c : Nat} {r : List Nat} : atI (DL s c r) 1 = some (.int c) := atI_nat (j := 1) rfl
theorem ix_at {n j : Nat} (hj : j < n) : ixN n (j : Int) = some j := by
  unfold ixN
  rw [if_pos (by omega), if_pos (by omega)]
  simp
theorem seqIx {n j : Nat} (hj : j < n) : seqIndex? (j : Int) n = some j := by
  unfold seqIndex?
  have h1 : ¬ (j : Int) < 0 := by omega
  have h2 : (decide (0 ≤ (j : Int)) && decide ((j : Int) < (n : Int))) = true := by
    rw [decide_eq_true (show 0 ≤ (j : Int) by omega), decide_eq_true (show (j : Int) < (n : Int) by omega)]
    rfl
  simp only [if_neg h1]
  rw [if_pos h2]
  simp
theorem fmod_nat (a b : Nat) : (a : Int).fmod (b : Int) = ((a % b : Nat) : Int) := by
  rw [Int.fmod_eq_emod_of_nonneg _ (by omega)]
  rfl
theorem fdiv_nat (a b : Nat) : (a : Int).fdiv (b : Int) = ((a / b : Nat) : Int) := by
  rw [Int.fdiv_eq_ediv_of_nonneg _ (by omega)]
  rfl
theorem dlx {s c j : Nat} {r : List Nat} (h : j < 2) : ixN (DL s c r).length (j : Int) = some j := ix_at (by
  show j < (List.map _ r).length + 1 + 1
  omega)
theorem dllen {s c : Nat} {r : List Nat} : (DL s c r).length = r.length + 2 := by
  show (List.map _ r).length + 1 + 1 = _
  rw [List.length_map]
/-- the built-ins that no name of the program hides -/
structure Blt (mg : Str → Option Value) : Prop where
  len : mg "len" = none
  range : mg "range" = none
  isi : mg "isinstance" = none
  int : mg "int" = none
  bool : mg "bool" = none
  str : mg "str" = none
  tuple : mg "tuple" = none
  list : mg "list" = none
  all : mg "all" = none
  abs : mg "abs" = none
  enum : mg "enumerate" = none
/-- a def of the top that keeps its promise -/
def Df (P : Program) (w : World) (K : PySem.W.Frag) (mg : Str → Option Value) (base : Heap) (x : Str) (k : Nat) (ps : List Str) (sp : Sp) : Prop :=
  ∃ (f : Addr) (fd : FuncData), mg x = some (.ref f) ∧ PySem.W.keepIn K (.ref f) = true ∧ Binds K fd ps [] ∧ FnOk P w K mg base CX0 k f fd ps sp
/-- a list of numbers -/
def nints (l : List Nat) : List V := l.map fun (n : Nat) => V.int (n : Int)
/-- filtering a range step by step -/
theorem filter_range_succ' {n : Nat} {f : Nat → Bool} : (List.range (n + 1)).filter f = (List.range n).filter f ++ (if f n = true then [n] else []) := by
  rw [List.range_succ, List.filter_append]
  congr 1
  by_cases c : f n = true
  · rw [if_pos c, List.filter_cons_of_pos c]
    rfl
  · rw [if_neg c, List.filter_cons_of_neg c]
    rfl
abbrev s_l_below : Stmt := top 47
abbrev N_l_below : List Str := ["_law_d", "_law_limit", "_law_result_here"]
abbrev P_l_below : List Str := ["_law_d", "_law_limit"]
theorem sc_l_below : FnScope N_l_below P_l_below (defScope s_l_below) := ⟨rfl, rfl, rfl, by decide +kernel, rfl, by decide +kernel, by decide +kernel⟩
/-! ### the next number -/
def spBelow : Sp := fun vs H Q _ => ∃ (d : Addr) (n : Nat), vs = [.ref d, .int n] ∧ DAt H d ∧ 0 < n ∧ n < 1152921504606846976 ∧
  ∀ H' (r : Nat), r < n → But d H H' → DAt H' d → Q (.int r) H'
section
variable {P : Program} {w : World} {K : PySem.W.Frag} {mg : Str → Option Value} {base : Heap}
theorem ok_below {f : Addr} {fd : FuncData} (F : Fun K "_law_below" "_law_below" s_l_below f fd) (ml : mg "len" = none) : FnOk P w K mg base CX0 2 f fd P_l_below spBelow := by
  refine F.ok sc_l_below (fun vs H Q E h => ?_) (fun cdv A outer s H vs Q E hr h => ?_)
  · obtain ⟨d, n, rfl, _⟩ := h
    rfl
  · obtain ⟨d, n, rfl, ⟨s0, c, r, hs, hl, hd⟩, n0, n1, q⟩ := h
    refine ⟨_, C8.pss_cut (ps_if (PW.pt (pw_and (pt_cmpR op_eq (pe_ix ix_list (pv 0) pe_int (fun _ _ => rfl)) pe_int (nomark _)) (pw_and1 (pt_cmpR op_gt (pe_callB call_len_seq (by rfl) ml PySem.boot_len (pa_cons (pv 0) pa_nil)) pe_int (nomark _)))))
        (pss_one (ps_asg (pe_bm PySem.F.plainAttrs_list PySem.F.slot_list_pop PySem.F.type_list_pop mt_popAt (pv 0) (pa_cons pe_int pa_nil)) (pg_sub (pv 0) pe_int set_list))) pss_nil)
      (pss_cons (ps_if (pt_cmpR op_gt (pe_ix ix_list (pv 0) pe_int (fun _ _ => rfl)) pe_int (nomark _))
        (pss_cons (ps_set (i := 2) sc_l_below.nd rfl (.inl rfl) (pe_op op_modN (pe_ix ix_list (pv 0) pe_int (fun _ _ => rfl)) (pv 1)))
          (pss_cons (ps_asg (pe_op op_fdivW (pe_ix ix_list (pv 0) pe_int (fun _ _ => rfl)) (pv 1)) (pg_sub (pv 0) pe_int set_list)) (pss_one (ps_ret (pv 2))))) pss_nil)
      (pss_cons (ps_asg (pe_op op_modN (pe_op op_add (pe_op op_mul (pe_ix ix_list (pv 0) pe_int (fun _ _ => rfl)) pe_int) pe_int) pe_int) (pg_sub (pv 0) pe_int set_list))
        (pss_one (ps_ret (pe_op op_modN (pe_op op_fdivN (pe_ix ix_list (pv 0) pe_int (fun _ _ => rfl)) pe_int) (pv 1)))))), ?_⟩
    -- if d[1] == 0 and len(d) > 2: d[1] = d.pop(2)
    have rest : ∀ (s1 c1 : Nat) (r1 : List Nat) (H1 : Hp), s1 < 2147483647 → r1.length ≤ 63 → But d H H1 → H1 d = some (.lst (DL s1 c1 r1)) →
        (fun σ' H' => σ' = [some (V.ref d), some (V.int n), none] ∧ But d H H' ∧ DAt H' d : L2.St → Hp → Prop) [some (V.ref d), some (V.int n), none] H1 := fun s1 c1 r1 H1 a1 a2 a3 a4 => ⟨rfl, a3, s1, c1, r1, a1, a2, a4⟩
    refine ⟨fun σ' H' => σ' = [some (V.ref d), some (V.int n), none] ∧ But d H H' ∧ DAt H' d, ⟨_, rfl, d, _, 1, _, rfl, rfl, SqL.of hd, dl1, rfl, _, rfl, ?_⟩, ?_⟩
    · refine ite2 (fun e => ?_) (fun _ => iteF (rest s0 c r H hs hl .refl hd))
      refine ⟨_, rfl, d, _, rfl, .inl (SqL.of hd), _, _, rfl, rfl, _, rfl, ?_⟩
      refine ite2 (fun e2 => ?_) (fun _ => rest s0 c r H hs hl .refl hd)
      have e3 : 2 < ((DL s0 c r).length : Int) := of_decide_eq_true e2
      rw [dllen] at e3
      cases r with
      | nil => exact absurd e3 (by decide)
      | cons m r2 =>
        have hl2 : r2.length + 1 ≤ 63 := hl
        refine ⟨_, rfl, .inl ⟨rfl, _, SqL.of hd⟩, d, _, 2, 2, .int m, rfl, rfl, hd, by decide, by decide, ?_, rfl, ?_⟩
        · exact seqIx (n := (DL s0 c (m :: r2)).length) (j := 2) (by rw [dllen, List.length_cons]; omega)
        · refine ⟨_, rfl, d, _, 1, 1, rfl, rfl, upd_same, ?_, ?_⟩
          · exact dlx (s := s0) (c := c) (r := r2) (j := 1) (by decide)
          · refine rest s0 m r2 _ hs (by omega) (fun b o nb e => ?_) upd_same
            rw [upd_ne nb, upd_ne nb]
            exact e
    · rintro σ' H1 ⟨rfl, b1, s1, c1, r1, hs1, hl1, hd1⟩
      -- if d[1] > 0
      refine ⟨_, rfl, d, _, 1, _, rfl, rfl, SqL.of hd1, dl1, _, _, rfl, rfl, _, rfl, ite2 (fun e => ?_) (fun _ => ?_)⟩
      · refine ⟨_, rfl, d, _, 1, _, rfl, rfl, SqL.of hd1, dl1, _, rfl, _, _, rfl, rfl, by omega, ?_⟩
        refine ⟨_, rfl, d, _, 1, _, rfl, rfl, SqL.of hd1, dl1, _, rfl, _, _, rfl, rfl, wide_div (b := 60) (by omega) (by show n < 2 ^ 60; exact n1) (by decide) (by decide), ?_⟩
        refine ⟨_, rfl, d, _, 1, 1, rfl, rfl, hd1, dlx (j := 1) (by decide), ?_⟩
        refine ⟨_, rfl, ?_⟩
        show Q (V.int ((c1 : Int).fmod (n : Int))) (L2.upd H1 d (.lst (DL s1 c1 r1 |>.set 1 (V.int ((c1 / n : Nat) : Int)))))
        rw [fmod_nat]
        exact q _ _ (Nat.mod_lt _ n0) (b1.trans .upd) ⟨s1, c1 / n, r1, hs1, hl1, upd_same⟩
      · refine ⟨_, rfl, d, _, 0, _, rfl, rfl, SqL.of hd1, dl0, _, _, rfl, rfl, .inl ⟨by omega, by omega⟩, _, _, rfl, rfl, _, _, rfl, rfl, (by show (2147483647 : Int) ≠ 0; decide), ?_⟩
        refine ⟨_, rfl, d, _, 0, 0, rfl, rfl, hd1, dlx (j := 0) (by decide), ?_⟩
        have e5 : ((s1 : Int) * 48271 + 11).fmod 2147483647 = (((s1 * 48271 + 11) % 2147483647 : Nat) : Int) := fmod_nat (s1 * 48271 + 11) 2147483647
        have e6 : ((DL s1 c1 r1).set 0 (V.int (((s1 : Int) * 48271 + 11).fmod 2147483647))) = DL ((s1 * 48271 + 11) % 2147483647) c1 r1 := by
          rw [e5]
          rfl
        have hd2 : (L2.upd H1 d (.lst ((DL s1 c1 r1).set 0 (V.int (((s1 : Int) * 48271 + 11).fmod 2147483647))))) d = some (.lst (DL ((s1 * 48271 + 11) % 2147483647) c1 r1)) := by
          rw [upd_same, e6]
        refine ⟨_, rfl, d, _, 0, _, rfl, rfl, SqL.of hd2, dl0, _, _, rfl, rfl, ⟨by decide, by decide⟩, _, rfl, _, _, rfl, rfl, by omega, ?_⟩
        show Q (V.int (Int.fmod (Int.fdiv (((s1 * 48271 + 11) % 2147483647 : Nat) : Int) ((64 : Nat) : Int)) (n : Int))) _
        rw [fdiv_nat, fmod_nat]
        exact q _ _ (Nat.mod_lt _ n0) (b1.trans .upd) ⟨_, c1, r1, Nat.mod_lt _ (by decide), hl1, hd2⟩
end
abbrev s_l_random : Stmt := top 46
abbrev N_l_random : List Str := ["_law_script", "_law_salt", "_law_seed", "_law_cell"]
abbrev P_l_random : List Str := ["_law_script", "_law_salt"]
theorem sc_l_random : FnScope N_l_random P_l_random (defScope s_l_random) := ⟨rfl, rfl, rfl, by decide +kernel, rfl, by decide +kernel, by decide +kernel⟩
/-! ### the source of numbers -/
def spRandom (K : PySem.W.Frag) : Sp := fun vs H Q _ => ∃ (a : Addr) (ns : List Int) (salt : Nat), vs = [.ref a, .int salt] ∧ SqL K H a (ns.map V.int) ∧ ns.length ≤ 63 ∧ salt < 2147483647 ∧
  ∀ H' d, Same H H' → H d = none → DAt H' d → Q (.ref d) H'
section
variable {P : Program} {w : World} {K : PySem.W.Frag} {mg : Str → Option Value} {base : Heap}
theorem ok_random {f : Addr} {fd : FuncData} (F : Fun K "_law_random" "_law_random" s_l_random f fd) (B : Blt mg) : FnOk P w K mg base CX0 2 f fd P_l_random (spRandom K) := by
  refine F.ok sc_l_random (fun vs H Q E h => ?_) (fun cdv A outer s H vs Q E hr h => ?_)
  · obtain ⟨a, ns, salt, rfl, _⟩ := h
    rfl
  · obtain ⟨a, ns, salt, rfl, hS, hlen, hsalt, q⟩ := h
    refine ⟨_, pss_cons (ps_set (i := 2) sc_l_random.nd rfl (.inl rfl) (pv 1))
      (pss_cons (ps_for PassesOwn.never rfl (pi_list (pv 0)) (pg_name (i := 3) sc_l_random.nd rfl (.inl rfl))
        (pss_one (ps_set (i := 2) sc_l_random.nd rfl (.inl rfl) (pe_op op_modN (pe_op op_add (pe_op op_mul (pv 2) pe_int) (pe_callB call_abs (by rfl) B.abs PyProof.Rows.boot_abs (pa_cons (pv 3) pa_nil))) pe_int))))
      (pss_one (ps_ret (pe_op op_cat (pe_lst (pa_cons (pv 2) (pa_cons pe_int pa_nil)))
        (pe_lc (own := [("_law_cell", 3)]) (g := gName 3) (by rfl) sc_l_random.nd (pi_list (pv 0)) (blkOk_by (N := N_l_random) (sc := defScope s_l_random) (by decide +kernel))
          (fun _ _ _ _ _ => pg_name (i := 3) sc_l_random.nd rfl (.inl rfl)) (fun _ _ _ _ _ => pts_one (pt_cmpR op_ge (pv 3) (pe_op op_pow pe_int pe_int) (nomark _))) (fun _ _ _ _ _ => pv 3)))))), ?_⟩
    refine ⟨_, rfl, .ref a, rfl, a, rfl, ⟨_, hS⟩, for_list (K := K) (a := a) (xs := ns.map V.int) (fun i σ H' => ∃ (z : Nat) (v : Option V), z < 2147483647 ∧ σ = [some (.ref a), some (.int salt), some (.int z), v] ∧ H' = H)
      ⟨salt, none, hsalt, rfl, rfl⟩ (fun i σ H' _ ⟨_, _, _, _, e⟩ => by rw [e]; exact hS) ?_ ?_⟩
    · rintro i y σ H' hi ⟨z, v, hz, rfl, rfl⟩
      obtain ⟨u, rfl⟩ : ∃ u, y = V.int u := by
        rw [List.getElem?_map] at hi
        cases e : ns[i]? with
        | none => rw [e] at hi; cases hi
        | some u => rw [e] at hi; exact ⟨u, (Option.some.inj hi).symm⟩
      refine ⟨_, rfl, _, _, rfl, rfl, .inl ⟨by omega, by omega⟩, _, rfl, _, rfl, _, _, rfl, rfl, _, _, rfl, rfl, (by show (2147483647 : Int) ≠ 0; decide), ?_⟩
      have e1 : (z : Int) * 31 + (if u < 0 then -u else u) = ((z * 31 + u.natAbs : Nat) : Int) := by
        split <;> omega
      refine ⟨(z * 31 + u.natAbs) % 2147483647, some (.int u), Nat.mod_lt _ (by decide), ?_, rfl⟩
      show [some (V.ref a), some (V.int salt), some (V.int (Int.fmod ((z : Int) * 31 + (if u < 0 then -u else u)) 2147483647)), some (V.int u)] = _
      rw [e1, show ((2147483647 : Int)) = ((2147483647 : Nat) : Int) from rfl, fmod_nat]
    · rintro σ H' ⟨z, v, hz, rfl, rfl⟩
      refine ⟨_, rfl, (by show 2 ≤ sizeLine; decide), fun l nl => ?_⟩
      have sl := same_upd (o := HO.lst [V.int z, V.int 0]) nl
      refine ⟨.ref a, rfl, a, rfl, ⟨_, sl.seq hS⟩, fun D nD => ?_⟩
      have nDl : l ≠ D := fun e => by
        rw [← e, upd_same] at nD
        cases nD
      refine lc_list (K := K) (a := a) (xs := ns.map V.int) (fun i H1 => ∃ r : List Nat, r.length ≤ i ∧ H1 = L2.upd (L2.upd H' l (.lst [V.int z, V.int 0])) D (.lst (r.map fun (n : Nat) => V.int (n : Int))))
        ⟨[], Nat.le_refl _, rfl⟩ (fun i H1 _ ⟨r, _, e⟩ => by rw [e]; exact (same_upd nD).seq (sl.seq hS)) ?_ ?_
      · rintro i x H1 hi ⟨r, hr1, rfl⟩
        obtain ⟨u, rfl⟩ : ∃ u, x = V.int u := by
          rw [List.getElem?_map] at hi
          cases e : ns[i]? with
          | none => rw [e] at hi; cases hi
          | some u => rw [e] at hi; exact ⟨u, (Option.some.inj hi).symm⟩
        have hi63 : i < ns.length := by
          have q := (List.getElem?_eq_some_iff.mp hi).1
          rw [List.length_map] at q
          exact q
        refine ⟨rfl, _, rfl, _, _, rfl, rfl, ⟨by decide, by decide, by decide⟩, _, _, rfl, rfl, _, rfl, ite2 (fun e => ?_) (fun _ => ⟨r, by omega, rfl⟩)⟩
        have e1 : (10 : Int) ^ (18 : Int).toNat ≤ u := of_decide_eq_true e
        have e2 : (0 : Int) ≤ u := Int.le_trans (by decide) e1
        refine ⟨_, rfl, _, upd_same, ?_, r ++ [u.toNat], ?_, ?_⟩
        · rw [List.length_map]
          exact small1000 (by omega)
        · rw [List.length_append, List.length_singleton]
          omega
        · rw [upd_upd, List.map_append]
          show L2.upd _ D (.lst (_ ++ [V.int u])) = L2.upd _ D (.lst (_ ++ [V.int (u.toNat : Int)]))
          rw [Int.toNat_of_nonneg e2]
      · rintro H1 ⟨r, hr1, rfl⟩
        rw [List.length_map] at hr1
        refine ⟨l, D, _, _, rfl, rfl, (upd_ne nDl).trans upd_same, upd_same, ?_, fun d nd => ?_⟩
        · rw [List.length_map]
          exact Nat.le_of_lt (small1000 (by show 2 + r.length ≤ 1000; omega))
        · refine q _ d (sl.trans ((same_upd nD).trans (same_upd nd))) (sl.free ((same_upd nD).free nd)) ⟨z, 0, r, hz, by omega, upd_same⟩
end
abbrev s_l_order : Stmt := top 48
abbrev N_l_order : List Str := ["_law_d", "_law_period", "_law_houses", "_law_source", "_law_delay", "_law_target"]
abbrev P_l_order : List Str := ["_law_d", "_law_period", "_law_houses"]
theorem sc_l_order : FnScope N_l_order P_l_order (defScope s_l_order) := ⟨rfl, rfl, rfl, by decide +kernel, rfl, by decide +kernel, by decide +kernel⟩
/-! ### an order made -/
def spOrder : Sp := fun vs H Q _ => ∃ (d : Addr) (p h : Nat), vs = [.ref d, .int p, .int h] ∧ DAt H d ∧ 0 < p ∧ p ≤ 30 ∧ 2 ≤ h ∧ h ≤ 10 ∧
  ∀ H' t o, OdOk p h o → But d H H' → DAt H' d → H t = none → H' t = some (.tup o.vs) → Q (.ref t) H'
section
variable {P : Program} {w : World} {K : PySem.W.Frag} {mg : Str → Option Value} {base : Heap}
theorem two_at {x y : V} {b : Nat} (hb : b < 2) : ∃ v, atI [x, y] (b : Int) = some v ∧ (v = x ∨ v = y) := by
  match b, hb with
  | 0, _ => exact ⟨x, atI_nat (j := 0) rfl, .inl rfl⟩
  | 1, _ => exact ⟨y, atI_nat (j := 1) rfl, .inr rfl⟩
theorem ok_order {f : Addr} {fd : FuncData} (F : Fun K "_law_order" "_law_order" s_l_order f fd) (DB : Df P w K mg base "_law_below" 2 P_l_below spBelow) : FnOk P w K mg base CX0 3 f fd P_l_order spOrder := by
  obtain ⟨fB, fdB, gB, kB, bB, GB⟩ := DB
  refine F.ok sc_l_order (fun vs H Q E h => ?_) (fun cdv A outer s H vs Q E hr h => ?_)
  · obtain ⟨d, p, h, rfl, _⟩ := h
    rfl
  · obtain ⟨d, p, h, rfl, hD, p0, p30, h2, h10, q⟩ := h
    refine ⟨_, pss_cons (ps_par (by rfl) sc_l_order.nd (i := 3) (j := 4) rfl rfl (by decide) rfl rfl
        (pa_cons (pe_call GB hr (by rfl) gB kB bB .nil pass0 (pa_cons (pv 0) (pa_cons (pv 2) pa_nil)))
          (pa_cons (pe_op op_add pe_int (pe_call GB hr (by rfl) gB kB bB .nil pass0 (pa_cons (pv 0) (pa_cons
            (pe_ix ix_list (pe_lst (pa_cons pe_int (pa_cons pe_int pa_nil))) (pe_call GB hr (by rfl) gB kB bB .nil pass0 (pa_cons (pv 0) (pa_cons pe_int pa_nil))) (fun _ _ => rfl)) pa_nil)))) pa_nil)) (by rfl))
      (pss_cons (ps_set (i := 5) sc_l_order.nd rfl (.inl rfl) (pe_op op_modN (pe_op op_add (pe_op op_add (pv 3) pe_int) (pe_call GB hr (by rfl) gB kB bB .nil pass0 (pa_cons (pv 0) (pa_cons (pe_op op_sub (pv 2) pe_int) pa_nil)))) (pv 2)))
      (pss_one (ps_ret (pe_tup (pa_cons (pv 3) (pa_cons (pv 5) (pa_cons (pe_call GB hr (by rfl) gB kB bB .nil pass0 (pa_cons (pv 0) (pa_cons (pv 1) pa_nil)))
        (pa_cons (pe_op op_add pe_int (pe_call GB hr (by rfl) gB kB bB .nil pass0 (pa_cons (pv 0) (pa_cons (pv 1) pa_nil)))) (pa_cons (pv 4) pa_nil))))))))), ?_⟩
    refine ⟨_, rfl, _, rfl, d, h, rfl, hD, by omega, by omega, fun H1 src hsrc b1 D1 => ?_⟩
    refine ⟨_, rfl, (by show 2 ≤ sizeLine; decide), fun l nl => ?_⟩
    have D1' := D1.but (same_upd (o := HO.lst [V.int 3, V.int 9]) nl)
    have ndl : d ≠ l := ne_of_none D1.som.choose_spec nl
    refine ⟨_, rfl, d, 2, rfl, D1', by decide, by decide, fun H2 b hb b2 D2 => ?_⟩
    have hl2 : H2 l = some (.lst [V.int 3, V.int 9]) := b2 l _ ndl.symm upd_same
    obtain ⟨m, hm, hm39⟩ : ∃ m : Nat, atI [V.int 3, V.int 9] (b : Int) = some (V.int m) ∧ (m = 3 ∨ m = 9) := by
      obtain ⟨v, h1, h2⟩ := two_at (x := V.int 3) (y := V.int 9) hb
      rcases h2 with h2 | h2
      · exact ⟨3, by rw [h1, h2]; rfl, .inl rfl⟩
      · exact ⟨9, by rw [h1, h2]; rfl, .inr rfl⟩
    refine ⟨l, _, _, _, rfl, rfl, SqL.of hl2, hm, ?_⟩
    refine ⟨d, m, rfl, D2, by omega, by omega, fun H3 dl hdl b3 D3 => ?_⟩
    refine ⟨_, _, rfl, rfl, _, _, rfl, ?_⟩
    refine ⟨_, rfl, _, _, rfl, rfl, _, rfl, _, rfl, _, _, rfl, rfl, d, h - 1, ?_, D3, by omega, by omega, fun H4 tt htt b4 D4 => ?_⟩
    · show [V.ref d, V.int ((h : Int) - 1)] = _
      rw [show (h : Int) - 1 = ((h - 1 : Nat) : Int) by omega]
    refine ⟨_, _, rfl, rfl, _, rfl, _, _, rfl, rfl, by omega, ?_⟩
    refine ⟨_, rfl, _, rfl, _, rfl, _, rfl, d, p, rfl, D4, by omega, by omega, fun H5 ff hff b5 D5 => ?_⟩
    refine ⟨_, rfl, _, rfl, d, p, rfl, D5, by omega, by omega, fun H6 nn hnn b6 D6 => ?_⟩
    refine ⟨_, _, rfl, rfl, _, rfl, (by show 5 ≤ sizeLine; decide), fun t nt => ?_⟩
    have e1 : ((src : Int) + 1 + (tt : Int)).fmod (h : Int) = (((src + 1 + tt) % h : Nat) : Int) := fmod_nat (src + 1 + tt) h
    have hb : But d H H6 := b1.trans ((But.new nl).trans (b2.trans (b3.trans (b4.trans (b5.trans b6)))))
    have hd6 := D6.som.choose_spec
    have ok : OdOk p h ⟨src, (src + 1 + tt) % h, ff, 1 + nn, 1 + dl⟩ := by
      refine ⟨hsrc, Nat.mod_lt _ (by omega), ?_, hff, by show 1 ≤ 1 + nn; omega, by show 1 + nn ≤ p; omega, by show 1 ≤ 1 + dl; omega, by show 1 + dl ≤ 9; omega⟩
      show src ≠ (src + 1 + tt) % h
      by_cases z : src + 1 + tt < h
      · rw [Nat.mod_eq_of_lt z]
        omega
      · rw [Nat.mod_eq_sub_mod (by omega), Nat.mod_eq_of_lt (by omega)]
        omega
    refine q _ t ⟨src, (src + 1 + tt) % h, ff, 1 + nn, 1 + dl⟩ ok (hb.trans (.new nt)) (D6.but (same_upd nt)) (hb.free hd6 nt) ?_
    rw [upd_same]
    show some (HO.tup [V.int src, V.int (((src : Int) + 1 + (tt : Int)).fmod (h : Int)), V.int ff, V.int (1 + (nn : Int)), V.int (1 + (dl : Int))]) = some (HO.tup [V.int src, V.int (((src + 1 + tt) % h : Nat) : Int), V.int ff, V.int ((1 + nn : Nat) : Int), V.int ((1 + dl : Nat) : Int)])
    rw [e1, Int.natCast_add 1 nn, Int.natCast_add 1 dl]
    rfl
end
/-! ### the parts of a net -/
def OrdAt (H : Hp) (v : V) (o : Od) : Prop := ∃ t, v = .ref t ∧ H t = some (.tup o.vs)
def TupKeep (H H' : Hp) : Prop := ∀ b xs, H b = some (.tup xs) → H' b = some (.tup xs)
theorem tk_of {H H' : Hp} (s : Same H H') : TupKeep H H' := fun b _ e => s b _ e
theorem But.tk {d : Addr} {H H' : Hp} (s : But d H H') (hd : DAt H d) : TupKeep H H' := fun b xs e => by
  obtain ⟨_, _, _, _, _, h3⟩ := hd
  exact s b _ (ne_of e h3 (by intro q; cases q)) e
theorem TupKeep.lst {H : Hp} {a : Addr} {xs : List V} {o : HO} (h : H a = some (.lst xs)) : TupKeep H (L2.upd H a o) := fun b ys e => by
  rw [upd_ne (ne_of e h (by intro q; cases q))]
  exact e
theorem But.updN {d p : Addr} {H H' : Hp} {o : HO} (s : But d H H') (h : H p = none) : But d H (L2.upd H' p o) := fun b u n e => by
  rw [upd_ne (ne_of_none e h)]
  exact s b u n e
theorem DAt.updN {d p : Addr} {H : Hp} {o : HO} (h : DAt H d) (n : d ≠ p) : DAt (L2.upd H p o) d := by
  obtain ⟨a, b, c, h1, h2, h3⟩ := h
  exact ⟨a, b, c, h1, h2, by rw [upd_ne n]; exact h3⟩
theorem TupKeep.trans {H H1 H2 : Hp} (a : TupKeep H H1) (b : TupKeep H1 H2) : TupKeep H H2 := fun c o e => b c o (a c o e)
theorem OrdAt.keep {H H' : Hp} {v : V} {o : Od} (k : TupKeep H H') (h : OrdAt H v o) : OrdAt H' v o := by
  obtain ⟨t, e, ht⟩ := h
  exact ⟨t, e, k _ _ ht⟩
theorem OrdsAt.keep {H H' : Hp} {ts : List V} {os : List Od} (k : TupKeep H H') (h : Paired (OrdAt H) ts os) : Paired (OrdAt H') ts os :=
  Paired.mapP h fun _ _ q => q.keep k
theorem Paired.snoc {α β : Type} {F : α → β → Prop} {x : α} {y : β} : ∀ {l1 : List α} {l2 : List β}, Paired F l1 l2 → F x y → Paired F (l1 ++ [x]) (l2 ++ [y])
  | _, _, .nil, q => .cons q .nil
  | _, _, .cons r t, q => .cons r (Paired.snoc t q)
theorem Paired.get? {α β : Type} {F : α → β → Prop} : ∀ {l1 : List α} {l2 : List β} {i : Nat} {y : β}, Paired F l1 l2 → l2[i]? = some y → ∃ x, l1[i]? = some x ∧ F x y
  | _, _, _, _, .nil, e => by simp at e
  | _, _, 0, _, .cons r _, e => by
    simp at e
    subst e
    exact ⟨_, rfl, r⟩
  | _, _, i + 1, y, .cons _ t, e => by
    obtain ⟨u, h1, h2⟩ := Paired.get? (i := i) (y := y) t (by simpa using e)
    exact ⟨u, by simpa using h1, h2⟩
structure NetOk (p h : Nat) (os : List Od) : Prop where
  p1 : 1 ≤ p
  p30 : p ≤ 30
  h1 : 1 ≤ h
  h10 : h ≤ 10
  len : os.length ≤ 20
  ok : ∀ o ∈ os, OdOk p h o
/-- the orders' tuple -/
def OrdsTup (H : Hp) (t : Addr) (os : List Od) : Prop := ∃ ts, H t = some (.tup ts) ∧ Paired (OrdAt H) ts os
theorem OrdsTup.keep {H H' : Hp} {t : Addr} {os : List Od} (k : TupKeep H H') (h : OrdsTup H t os) : OrdsTup H' t os := by
  obtain ⟨ts, h1, h2⟩ := h
  exact ⟨ts, k _ _ h1, OrdsAt.keep k h2⟩
def PartsAt (H : Hp) (a : Addr) (p h : Nat) (os : List Od) : Prop := ∃ t, H a = some (.tup [.int p, .int h, .ref t]) ∧ OrdsTup H t os
theorem PartsAt.keep {H H' : Hp} {a : Addr} {p h : Nat} {os : List Od} (k : TupKeep H H') (q : PartsAt H a p h os) : PartsAt H' a p h os := by
  obtain ⟨t, h1, h2⟩ := q
  exact ⟨t, k _ _ h1, h2.keep k⟩
abbrev s_l_small : Stmt := top 49
abbrev N_l_small : List Str := ["_law_d", "_law_period", "_law_houses", "_law_k"]
abbrev P_l_small : List Str := ["_law_d"]
theorem sc_l_small : FnScope N_l_small P_l_small (defScope s_l_small) := ⟨rfl, rfl, rfl, by decide +kernel, rfl, by decide +kernel, by decide +kernel⟩
/-! ### the parts of a small net -/
def spSmall : Sp := fun vs H Q _ => ∃ (d : Addr), vs = [.ref d] ∧ DAt H d ∧
  ∀ H' a p h os, NetOk p h os → (p ≤ 5 ∧ 2 ≤ h ∧ h ≤ 4 ∧ 1 ≤ os.length ∧ os.length ≤ 6) → But d H H' → DAt H' d → H a = none → PartsAt H' a p h os → Q (.ref a) H'
section
variable {P : Program} {w : World} {K : PySem.W.Frag} {mg : Str → Option Value} {base : Heap}
theorem ok_small {f : Addr} {fd : FuncData} (F : Fun K "_law_small" "_law_small" s_l_small f fd) (B : Blt mg) (DB : Df P w K mg base "_law_below" 2 P_l_below spBelow) (DO : Df P w K mg base "_law_order" 3 P_l_order spOrder) : FnOk P w K mg base CX0 4 f fd P_l_small spSmall := by
  obtain ⟨fB, fdB, gB, kB, bB, GB⟩ := DB
  obtain ⟨fO, fdO, gO, kO, bO, GO⟩ := DO
  refine F.ok sc_l_small (fun vs H Q E h => ?_) (fun cdv A outer s H vs Q E hr h => ?_)
  · obtain ⟨d, rfl, _⟩ := h
    rfl
  · obtain ⟨d, rfl, hD, q⟩ := h
    have hr1 : Room 2 _ := hr.mono (by decide)
    refine ⟨_, pss_cons (ps_asg (pe_tup (pa_cons (pe_op op_add pe_int (pe_call GB hr1 (by rfl) gB kB bB .nil pass0 (pa_cons (pv 0) (pa_cons pe_int pa_nil)))) (pa_cons (pe_op op_add pe_int (pe_call GB hr1 (by rfl) gB kB bB .nil pass0 (pa_cons (pv 0) (pa_cons pe_int pa_nil)))) pa_nil)))
        (pg_tup (by rfl) (pgs_cons (pg_name (i := 1) sc_l_small.nd rfl (.inr rfl)) (pgs_cons (pg_name (i := 2) sc_l_small.nd rfl (.inr rfl)) pgs_nil))))
      (pss_one (ps_ret (pe_tup (pa_cons (pv 1) (pa_cons (pv 2) (pa_cons (pe_callTy call_tuple_of (by rfl) B.tuple (by decide +kernel) (pa_cons
        (pe_lc (own := [("_law_k", 3)]) (g := gName 3) (tt := tYes) (by rfl) sc_l_small.nd (pi_range1 rfl B.range (pa_cons (pe_op op_add pe_int (pe_call GB hr1 (by rfl) gB kB bB .nil pass0 (pa_cons (pv 0) (pa_cons pe_int pa_nil)))) pa_nil))
          (blkOk_by (N := N_l_small) (sc := defScope s_l_small) (by decide +kernel)) (fun _ _ _ _ _ => pg_name (i := 3) sc_l_small.nd rfl (.inl rfl)) (fun _ _ _ _ _ => pts_nil)
          (fun _ _ _ _ _ => pe_call GO hr (by rfl) gO kO bO .nil pass0 (pa_cons (pv 0) (pa_cons (pv 1) (pa_cons (pv 2) pa_nil))))) pa_nil)) pa_nil)))))), ?_⟩
    refine ⟨_, rfl, d, 5, rfl, hD, by decide, by decide, fun H1 p0 hp0 b1 D1 => ?_⟩
    refine ⟨_, _, rfl, rfl, _, rfl, d, 3, rfl, D1, by decide, by decide, fun H2 h0 hh0 b2 D2 => ?_⟩
    refine ⟨_, _, rfl, rfl, (by show 2 ≤ sizeLine; decide), fun y ny => ?_⟩
    have s3 := same_upd (o := HO.tup [V.int (1 + (p0 : Int)), V.int (2 + (h0 : Int))]) ny
    refine ⟨y, _, rfl, SqT.of upd_same, rfl, _, _, rfl, _, _, rfl, rfl, ?_⟩
    have D3 := D2.but s3
    have B3 : But d H (upd H2 y (.tup [V.int (1 + (p0 : Int)), V.int (2 + (h0 : Int))])) := b1.trans (b2.trans (.of s3))
    generalize (upd H2 y (.tup [V.int (1 + (p0 : Int)), V.int (2 + (h0 : Int))])) = H3 at D3 B3
    have ep : V.int (1 + (p0 : Int)) = .int ((1 + p0 : Nat) : Int) := by rw [Int.natCast_add]; rfl
    have eh : V.int (2 + (h0 : Int)) = .int ((2 + h0 : Nat) : Int) := by rw [Int.natCast_add]; rfl
    simp only [ep, eh]
    generalize hp : 1 + p0 = p
    generalize hh : 2 + h0 = h
    refine ⟨_, rfl, _, rfl, _, rfl, d, 6, rfl, D3, by decide, by decide, fun H4 n hn b4 D4 => ⟨_, _, rfl, rfl, _, rfl, by omega, by omega, fun D nD => ?_⟩⟩
    have D4' := D4.but (same_upd (o := HO.lst []) nD)
    have ndD : d ≠ D := ne_of_none D4.som.choose_spec nD
    have B4 := B3.trans b4
    refine lc_range (lo := 0) (n := (1 + (n : Int)).toNat) (fun i H' => But d H H' ∧ DAt H' d ∧ ∃ (ts : List V) (os : List Od), H' D = some (.lst ts) ∧ ts.length = i ∧ Paired (OrdAt H') ts os ∧ ∀ o ∈ os, OdOk p h o)
      ⟨B4.trans (.new nD), D4', [], [], upd_same, rfl, .nil, fun _ z => by cases z⟩ ?_ ?_
    · rintro i H' hi ⟨bb, DD, ts, os, hDD, hlen, hP, hOk⟩
      refine ⟨rfl, ?_⟩
      refine ⟨_, rfl, _, rfl, _, rfl, d, p, h, rfl, DD, by omega, by omega, by omega, by omega, fun H2 t o hok b2 D2 nt ht => ?_⟩
      have hD2 := b2 D _ ndD.symm hDD
      have tk := b2.tk DD
      have ntD : t ≠ D := (ne_of_none hDD nt).symm
      refine ⟨ts, hD2, small1000 (by omega), (bb.trans b2).updN (B4.free D4.som.choose_spec nD), D2.updN ndD, ts ++ [.ref t], os ++ [o], upd_same, by rw [List.length_append, hlen]; rfl, ?_, ?_⟩
      · refine Paired.snoc (OrdsAt.keep (tk.trans (TupKeep.lst hD2)) hP) ⟨t, rfl, ?_⟩
        rw [upd_ne ntD]
        exact ht
      · intro o' ho'
        rcases List.mem_append.mp ho' with z | z
        · exact hOk o' z
        · rw [List.mem_singleton.mp z]
          exact hok
    · rintro H' ⟨bb, DD, ts, os, hDD, hlen, hP, hOk⟩
      have ho := hP.length
      refine ⟨D, ts, rfl, .inl ⟨SqL.of hDD, fun t nt => ?_⟩⟩
      refine ⟨(by show 3 ≤ sizeLine; decide), fun a na => ?_⟩
      have s1 := same_upd (o := HO.tup ts) nt
      have s2 := same_upd (o := HO.tup [V.int p, V.int h, V.ref t]) na
      refine q _ a p h os ⟨by omega, by omega, by omega, by omega, by omega, hOk⟩ ⟨by omega, by omega, by omega, by omega, by omega⟩ (bb.trans ((But.of s1).trans (.of s2))) (DD.but (s1.trans s2)) (bb.free DD.som.choose_spec (s1.free na)) ⟨t, upd_same, ts, ?_, OrdsAt.keep (tk_of (s1.trans s2)) hP⟩
      rw [upd_ne (ne_of_none (upd_same (H := H')) na), upd_same]
end
abbrev s_is_integer : Stmt := top 20
abbrev N_is_integer : List Str := ["value"]
abbrev P_is_integer : List Str := ["value"]
theorem sc_is_integer : FnScope N_is_integer P_is_integer (defScope s_is_integer) := ⟨rfl, rfl, rfl, by decide +kernel, rfl, by decide +kernel, by decide +kernel⟩
abbrev s_is_within : Stmt := top 21
abbrev N_is_within : List Str := ["value", "low", "high"]
abbrev P_is_within : List Str := ["value", "low", "high"]
theorem sc_is_within : FnScope N_is_within P_is_within (defScope s_is_within) := ⟨rfl, rfl, rfl, by decide +kernel, rfl, by decide +kernel, by decide +kernel⟩
abbrev s_is_order : Stmt := top 37
abbrev N_is_order : List Str := ["period", "houses", "order", "source", "target", "first", "days", "delay"]
abbrev P_is_order : List Str := ["period", "houses", "order"]
theorem sc_is_order : FnScope N_is_order P_is_order (defScope s_is_order) := ⟨rfl, rfl, rfl, by decide +kernel, rfl, by decide +kernel, by decide +kernel⟩
abbrev s_check_orders : Stmt := top 38
abbrev N_check_orders : List Str := ["period", "houses", "orders", "index", "order"]
abbrev P_check_orders : List Str := ["period", "houses", "orders"]
theorem sc_check_orders : FnScope N_check_orders P_check_orders (defScope s_check_orders) := ⟨rfl, rfl, rfl, by decide +kernel, rfl, by decide +kernel, by decide +kernel⟩
/-! ### is_within, is_order, check_orders -/
/-- a value that is no int (a bool, or a thing of another built-in type) -/
def NotInt (K : PySem.W.Frag) (H : Hp) (x : V) : Prop := (∃ b, x = .bl b) ∨ ∃ t, TyX K H x (.type t) ∧ kitB t "int" = some false
def Kn (K : PySem.W.Frag) (H : Hp) (x : V) : Prop := (∃ i, x = .int i) ∨ (NotInt K H x ∧ ∀ i, x ≠ .int i)
def withinB (x : V) (lo hi : Int) : Bool := match x with
  | .int v => decide (lo ≤ v) && decide (v ≤ hi)
  | _ => false
theorem Kn.int {K : PySem.W.Frag} {H : Hp} {i : Int} : Kn K H (.int i) := .inl ⟨i, rfl⟩
theorem withinB_no {x : V} {lo hi : Int} (h : ∀ i, x ≠ .int i) : withinB x lo hi = false := by
  unfold withinB
  split
  · rename_i v
    exact absurd rfl (h v)
  · rfl
def isIntB (x : V) : Bool := match x with
  | .int _ => true
  | _ => false
theorem isIntB_no {x : V} (h : ∀ i, x ≠ .int i) : isIntB x = false := by
  unfold isIntB
  split
  · rename_i v
    exact absurd rfl (h v)
  · rfl
def spIsInt (K : PySem.W.Frag) : Sp := fun vs H Q _ => ∃ (x : V), vs = [x] ∧ Kn K H x ∧ Q (.bl (isIntB x)) H
def spWithin (K : PySem.W.Frag) : Sp := fun vs H Q _ => ∃ (x : V) (lo hi : Int), vs = [x, .int lo, .int hi] ∧ Kn K H x ∧ Q (.bl (withinB x lo hi)) H
section
variable {P : Program} {w : World} {K : PySem.W.Frag} {mg : Str → Option Value} {base : Heap}
theorem ok_isint {f : Addr} {fd : FuncData} (F : Fun K "is_integer" "is_integer" s_is_integer f fd) (B : Blt mg) : FnOk P w K mg base CX0 1 f fd P_is_integer (spIsInt K) := by
  refine F.ok sc_is_integer (fun vs H Q E h => ?_) (fun cdv A outer s H vs Q E hr h => ?_)
  · obtain ⟨x, rfl, _⟩ := h
    rfl
  · obtain ⟨x, rfl, hk, q⟩ := h
    refine ⟨_, pss_one (ps_ret (pe_and (pe_callB call_isi (by rfl) B.isi PyProof.Rows.boot_isinstance (pa_cons (pv 0) (pa_cons (pe_bltn (v := .ty "int") (by rfl) B.int (by decide +kernel) rfl) pa_nil)))
      (pe_one (pe_not (pe_callB call_isi (by rfl) B.isi PyProof.Rows.boot_isinstance (pa_cons (pv 0) (pa_cons (pe_bltn (v := .ty "bool") (by rfl) B.bool (by decide +kernel) rfl) pa_nil))))))), ?_⟩
    rcases hk with ⟨v, rfl⟩ | ⟨⟨b, rfl⟩ | ⟨t, ty, kt⟩, hne⟩
    · refine ⟨_, rfl, _, _, _, _, true, rfl, .ty "int", .base (.int v), kit_ty (by decide +kernel), _, rfl, iteT ?_⟩
      exact ⟨_, rfl, _, _, _, _, false, rfl, .ty "bool", .base (.int v), kit_ty (by decide +kernel), _, rfl, q⟩
    · refine ⟨_, rfl, _, _, _, _, true, rfl, .ty "int", .base (.bl b), kit_ty (by decide +kernel), _, rfl, iteT ?_⟩
      exact ⟨_, rfl, _, _, _, _, true, rfl, .ty "bool", .base (.bl b), kit_ty (by decide +kernel), _, rfl, q⟩
    · rw [isIntB_no hne] at q
      exact ⟨_, rfl, _, _, _, _, false, rfl, .ty "int", ty, kit_ty kt, _, rfl, iteF q⟩
theorem ok_within {f : Addr} {fd : FuncData} (F : Fun K "is_within" "is_within" s_is_within f fd) (DI : Df P w K mg base "is_integer" 1 P_is_integer (spIsInt K)) : FnOk P w K mg base CX0 2 f fd P_is_within (spWithin K) := by
  obtain ⟨fI, fdI, gI, KI, bI, GI⟩ := DI
  refine F.ok sc_is_within (fun vs H Q E h => ?_) (fun cdv A outer s H vs Q E hr h => ?_)
  · obtain ⟨x, lo, hi, rfl, _⟩ := h
    rfl
  · obtain ⟨x, lo, hi, rfl, hk, q⟩ := h
    refine ⟨_, pss_one (ps_ret (pe_and (pe_call GI hr (by rfl) gI KI bI .nil pass0 (pa_cons (pv 0) pa_nil))
      (pe_one (pe_chain op_le op_le (pv 1) (pv 0) (pv 2))))), ?_⟩
    refine ⟨_, rfl, x, rfl, hk, ?_⟩
    cases x with
    | int v =>
      refine ⟨_, rfl, iteT ?_⟩
      refine ⟨_, rfl, _, rfl, _, _, rfl, rfl, _, rfl, ite2 (fun e => ?_) (fun e => ?_)⟩
      · refine ⟨_, rfl, _, _, rfl, rfl, ?_⟩
        have q2 : Q (.bl (decide (lo ≤ v) && decide (v ≤ hi))) H := q
        rw [e, Bool.true_and] at q2
        exact q2
      · have q2 : Q (.bl (decide (lo ≤ v) && decide (v ≤ hi))) H := q
        rw [Bool.eq_false_iff.mpr e, Bool.false_and] at q2
        exact q2
    | _ => exact ⟨_, rfl, iteF q⟩
end
/-- what is_order says of the values of a tuple -/
def orderB (p h : Int) : List V → Bool
  | [s, t, f, n, e] => withinB s 0 (h - 1) && (withinB t 0 (h - 1) && (!decide (s = t) && (withinB f 0 (p - 1) && (withinB n 1 p && withinB e 1 9))))
  | _ => false
theorem within_nat {v lo hi : Nat} (h1 : lo ≤ v) (h2 : v ≤ hi) : withinB (.int v) lo hi = true := by
  show (decide ((lo : Int) ≤ v) && decide ((v : Int) ≤ hi)) = true
  rw [decide_eq_true (by omega), decide_eq_true (by omega)]
  rfl
theorem orderB_ok {p h : Nat} {o : Od} (k : OdOk p h o) : orderB p h o.vs = true := by
  have a1 := k.s; have a2 := k.t; have a3 := k.st; have a4 := k.f; have a5 := k.n1; have a6 := k.n; have a7 := k.e1; have a8 := k.e
  show (withinB (.int o.s) 0 ((h : Int) - 1) && (withinB (.int o.t) 0 ((h : Int) - 1) && (!decide (V.int o.s = V.int o.t) && (withinB (.int o.f) 0 ((p : Int) - 1) && (withinB (.int o.n) 1 p && withinB (.int o.e) 1 9))))) = true
  have e1 : ((h : Int) - 1) = ((h - 1 : Nat) : Int) := by omega
  have e2 : ((p : Int) - 1) = ((p - 1 : Nat) : Int) := by omega
  rw [e1, e2]
  have b1 : withinB (.int o.s) 0 ((h - 1 : Nat) : Int) = true := within_nat (lo := 0) (by omega) (by omega)
  have b2 : withinB (.int o.t) 0 ((h - 1 : Nat) : Int) = true := within_nat (lo := 0) (by omega) (by omega)
  have b3 : withinB (.int o.f) 0 ((p - 1 : Nat) : Int) = true := within_nat (lo := 0) (by omega) (by omega)
  have b4 : withinB (.int o.n) 1 p = true := within_nat (lo := 1) (by omega) (by omega)
  have b5 : withinB (.int o.e) 1 9 = true := within_nat (lo := 1) (hi := 9) (by omega) (by omega)
  have b6 : decide (V.int (o.s : Int) = V.int o.t) = false := decide_eq_false fun z => a3 (by
    have z2 := V.int.inj z
    omega)
  rw [b1, b2, b3, b4, b5, b6]
  rfl
/-- what may be asked whether it is an order: a tuple of known values, or a thing that is no tuple -/
def OrderLike (K : PySem.W.Frag) (H : Hp) (v : V) (p h : Int) (b : Bool) : Prop :=
  (∃ a xs, v = .ref a ∧ H a = some (.tup xs) ∧ (∀ x ∈ xs, Kn K H x) ∧ b = orderB p h xs) ∨ (∃ t, TyX K H v (.type t) ∧ kitB t "tuple" = some false ∧ b = false)
theorem OrdAt.like {K : PySem.W.Frag} {H : Hp} {v : V} {o : Od} {p h : Nat} (k : OdOk p h o) (q : OrdAt H v o) : OrderLike K H v p h true := by
  obtain ⟨t, rfl, ht⟩ := q
  refine .inl ⟨t, _, rfl, ht, fun x hx => ?_, (orderB_ok k).symm⟩
  unfold Od.vs at hx
  simp only [List.mem_cons, List.not_mem_nil, or_false] at hx
  rcases hx with rfl | rfl | rfl | rfl | rfl <;> exact Kn.int
theorem withinB_int {x : V} {lo hi : Int} (h : withinB x lo hi = true) : ∃ i, x = .int i := by
  cases x <;> first
    | exact ⟨_, rfl⟩
    | cases h
def spIsOrder (K : PySem.W.Frag) : Sp := fun vs H Q _ => ∃ (v : V) (p h : Int) (b : Bool), vs = [.int p, .int h, v] ∧ OrderLike K H v p h b ∧ Q (.bl b) H
section
variable {P : Program} {w : World} {K : PySem.W.Frag} {mg : Str → Option Value} {base : Heap}
theorem ok_is_order {f : Addr} {fd : FuncData} (F : Fun K "is_order" "is_order" s_is_order f fd) (B : Blt mg) (DW : Df P w K mg base "is_within" 2 P_is_within (spWithin K)) (hM : ∃ t, mg "LONGEST_DELAY" = some (.int 9 t)) : FnOk P w K mg base CX0 3 f fd P_is_order (spIsOrder K) := by
  obtain ⟨fW, fdW, gW, kW, bW, GW⟩ := DW
  obtain ⟨tk9, hM⟩ := hM
  refine F.ok sc_is_order (fun vs H Q E h => ?_) (fun cdv A outer s H vs Q E hr h => ?_)
  · obtain ⟨v, p, h, b, rfl, _⟩ := h
    rfl
  · obtain ⟨v, p, h, b, rfl, hl, q⟩ := h
    refine ⟨_, pss_cons (ps_if (PW.pt (pw_or (pt_not (pt_val (pe_callB call_isi (by rfl) B.isi PyProof.Rows.boot_isinstance (pa_cons (pv 2) (pa_cons (pe_bltn (v := .ty "tuple") (by rfl) B.tuple (by decide +kernel) rfl) pa_nil)))))
        (pw_or1 (pt_cmpR op_ne (pe_callB call_len_seq (by rfl) B.len PySem.boot_len (pa_cons (pv 2) pa_nil)) pe_int (nomark _))))) (pss_one (ps_ret pe_bl)) pss_nil)
      (pss_cons (ps_asg (pv 2) (pg_tup (by rfl) (pgs_cons (pg_name (i := 3) sc_is_order.nd rfl (.inl rfl)) (pgs_cons (pg_name (i := 4) sc_is_order.nd rfl (.inl rfl)) (pgs_cons (pg_name (i := 5) sc_is_order.nd rfl (.inl rfl))
        (pgs_cons (pg_name (i := 6) sc_is_order.nd rfl (.inl rfl)) (pgs_cons (pg_name (i := 7) sc_is_order.nd rfl (.inl rfl)) pgs_nil)))))))
      (pss_cons (ps_if (pt_not (PW.pt (pw_and (pt_val (pe_call GW hr (by rfl) gW kW bW .nil pass0 (pa_cons (pv 3) (pa_cons pe_int (pa_cons (pe_op op_sub (pv 1) pe_int) pa_nil)))))
        (pw_and (pt_val (pe_call GW hr (by rfl) gW kW bW .nil pass0 (pa_cons (pv 4) (pa_cons pe_int (pa_cons (pe_op op_sub (pv 1) pe_int) pa_nil)))))
          (pw_and1 (pt_cmpR op_ne (pv 3) (pv 4) (nomark _))))))) (pss_one (ps_ret pe_bl)) pss_nil)
      (pss_one (ps_ret (pe_and (pe_call GW hr (by rfl) gW kW bW .nil pass0 (pa_cons (pv 5) (pa_cons pe_int (pa_cons (pe_op op_sub (pv 0) pe_int) pa_nil))))
        (pe_and (pe_call GW hr (by rfl) gW kW bW .nil pass0 (pa_cons (pv 6) (pa_cons pe_int (pa_cons (pv 0) pa_nil))))
          (pe_one (pe_call GW hr (by rfl) gW kW bW .nil pass0 (pa_cons (pv 7) (pa_cons pe_int (pa_cons (pe_glob (v := .int 9) rfl hM ⟨_, rfl⟩) pa_nil))))))))))), ?_⟩
    rcases hl with ⟨a, xs, rfl, ha, hkn, rfl⟩ | ⟨t, ty, kt, rfl⟩
    · refine ⟨_, rfl, _, _, _, _, true, rfl, .ty "tuple", .base (.tup ha), kit_ty (by decide +kernel), _, rfl, iteF ?_⟩
      refine ⟨_, rfl, a, xs, rfl, .inr (SqT.of ha), rfl, _, rfl, ?_⟩
      refine ite2 (fun e => ?_) (fun e => ?_)
      · have hne : orderB p h xs = false := by
          match xs, e with
          | [], _ => rfl
          | [_], _ => rfl
          | [_, _], _ => rfl
          | [_, _, _], _ => rfl
          | [_, _, _, _], _ => rfl
          | [_, _, _, _, _], e => exact absurd e (by show ¬ (!decide (V.int ((5 : Nat) : Int) = V.int 5)) = true; decide)
          | _ :: _ :: _ :: _ :: _ :: _ :: _, _ => rfl
        rw [hne] at q
        exact q
      · have h5 : xs.length = 5 := by
          by_cases z : xs.length = 5
          · exact z
          · exact absurd (show (!decide (V.int (xs.length : Int) = V.int 5)) = true by
              rw [decide_eq_false (fun z2 => z (by have z3 := V.int.inj z2; omega))]
              rfl) e
        match xs, h5 with
        | [x1, x2, x3, x4, x5], _ =>
          have k1 := hkn x1 (by simp)
          have k2 := hkn x2 (by simp)
          have k3 := hkn x3 (by simp)
          have k4 := hkn x4 (by simp)
          have k5 := hkn x5 (by simp)
          refine ⟨_, rfl, a, _, rfl, SqT.of ha, rfl, _, _, rfl, _, _, rfl, _, _, rfl, _, _, rfl, _, _, rfl, rfl, ?_⟩
          have q2 : Q (.bl (withinB x1 0 (h - 1) && (withinB x2 0 (h - 1) && (!decide (x1 = x2) && (withinB x3 0 (p - 1) && (withinB x4 1 p && withinB x5 1 9)))))) H := q
          refine ⟨_, rfl, _, rfl, _, _, rfl, rfl, x1, 0, h - 1, rfl, k1, _, rfl, ite2 (fun e1 => ?_) (fun e1 => ?_)⟩
          · refine ⟨_, rfl, _, rfl, _, _, rfl, rfl, x2, 0, h - 1, rfl, k2, _, rfl, ite2 (fun e2 => ?_) (fun e2 => ?_)⟩
            · obtain ⟨i1, rfl⟩ := withinB_int e1
              obtain ⟨i2, rfl⟩ := withinB_int e2
              rw [e1, e2, Bool.true_and, Bool.true_and] at q2
              refine ⟨_, rfl, _, rfl, rfl, _, rfl, ?_⟩
              by_cases z : V.int i1 = V.int i2
              · rw [decide_eq_true z] at q2
                rw [decide_eq_true z]
                exact q2
              · rw [decide_eq_false z, Bool.not_false, Bool.true_and] at q2
                rw [decide_eq_false z]
                refine ⟨_, rfl, _, rfl, _, _, rfl, rfl, x3, 0, p - 1, rfl, k3, _, rfl, ite2 (fun e3 => ?_) (fun e3 => ?_)⟩
                · rw [e3, Bool.true_and] at q2
                  refine ⟨_, rfl, _, rfl, x4, 1, p, rfl, k4, _, rfl, ite2 (fun e4 => ?_) (fun e4 => ?_)⟩
                  · rw [e4, Bool.true_and] at q2
                    exact ⟨_, rfl, x5, 1, 9, rfl, k5, q2⟩
                  · rw [Bool.eq_false_iff.mpr e4, Bool.false_and] at q2
                    exact q2
                · rw [Bool.eq_false_iff.mpr e3, Bool.false_and] at q2
                  exact q2
            · rw [e1, Bool.eq_false_iff.mpr e2, Bool.true_and, Bool.false_and] at q2
              exact iteT q2
          · rw [Bool.eq_false_iff.mpr e1, Bool.false_and] at q2
            exact iteT q2
    · exact ⟨_, rfl, _, _, _, _, false, rfl, .ty "tuple", ty, kit_ty kt, _, rfl, iteT q⟩
end
/-! ### walks over an enumerated tuple; check_orders for valid nets; find_followed -/
theorem for_enumT {K : PySem.W.Frag} {a : Addr} {xs : List V} {g : TG} {tb : TS} {D : Ends} {σ : L2.St} {H : Hp} (Pv : Nat → L2.St → Hp → Prop) (h0 : Pv 0 σ H) (hl : ∀ i σ H, Pv i σ H → H a = some (.tup xs))
    (hs : ∀ i x σ H T, xs[i]? = some x → Pv i σ H → H T = none → g (.ref T) σ (upd H T (.tup [.int (i : Nat), x])) fun σ2 H2 => tb { D with nx := Pv (i + 1), ct := Pv (i + 1), bk := D.nx } σ2 H2) (hd : ∀ σ H, Pv xs.length σ H → D.nx σ H) :
    ∃ W : Nat → Nat → L2.St → Hp → Prop, (∃ m, W 0 m σ H) ∧ ∀ i m σ H, W i m σ H →
      ((IteT K a).stop i H ∧ D.nx σ H) ∨ ((IteT K a).go i H ∧ ∃ N : L2.St → Hp → Prop, (∀ σ' H', N σ' H' → ∃ m', m' < m ∧ W (i + 1) m' σ' H') ∧ ∀ x H', (IteT K a).yld i H x H' → g x σ H' fun σ2 H2 => tb { D with nx := N, ct := N, bk := D.nx } σ2 H2) := by
  refine ⟨fun i m σ H => m = xs.length - i ∧ i ≤ xs.length ∧ Pv i σ H, ⟨xs.length, rfl, Nat.zero_le _, h0⟩, ?_⟩
  rintro i m σ H ⟨rfl, hi, p⟩
  have q := hl i σ H p
  by_cases hlt : i < xs.length
  · refine .inr ⟨⟨xs, xs[i], SqT.of q, List.getElem?_eq_getElem hlt⟩, Pv (i + 1), fun σ' H' p' => ⟨xs.length - (i + 1), by omega, rfl, hlt, p'⟩, fun x H' y => ?_⟩
    obtain ⟨T, x', rfl, nT, rfl, f⟩ := y
    obtain rfl : x' = xs[i] := Option.some.inj ((f xs (SqT.of q)).symm.trans (List.getElem?_eq_getElem hlt))
    exact hs i _ σ H T (List.getElem?_eq_getElem hlt) p nT
  · refine .inl ⟨⟨xs, SqT.of q, by omega⟩, hd σ H ?_⟩
    rw [show xs.length = i by omega]
    exact p
def spChkOrders : Sp := fun vs H Q _ => ∃ (t : Addr) (p h : Nat) (os : List Od), vs = [.int p, .int h, .ref t] ∧ NetOk p h os ∧ OrdsTup H t os ∧ ∀ H', Same H H' → Q .non H'
section
variable {P : Program} {w : World} {K : PySem.W.Frag} {mg : Str → Option Value} {base : Heap}
theorem ok_chk_orders {f : Addr} {fd : FuncData} (F : Fun K "check_orders" "check_orders" s_check_orders f fd) (B : Blt mg) (DI : Df P w K mg base "is_order" 3 P_is_order (spIsOrder K)) (hM : ∃ t, mg "MOST_ORDERS" = some (.int 20 t)) : FnOk P w K mg base CX0 4 f fd P_check_orders spChkOrders := by
  obtain ⟨fI, fdI, gI, kI, bI, GI⟩ := DI
  obtain ⟨tk20, hM⟩ := hM
  refine F.ok sc_check_orders (fun vs H Q E h => ?_) (fun cdv A outer s H vs Q E hr h => ?_)
  · obtain ⟨t, p, h, os, rfl, _⟩ := h
    rfl
  · obtain ⟨t, p, h, os, rfl, N, ⟨ts, ht, hP⟩, q⟩ := h
    refine ⟨_, pss_cons (ps_if (pt_not (pt_val (pe_callB call_isi (by rfl) B.isi PyProof.Rows.boot_isinstance (pa_cons (pv 2) (pa_cons (pe_bltn (v := .ty "tuple") (by rfl) B.tuple (by decide +kernel) rfl) pa_nil))))) (pss_one ps_never) pss_nil)
      (pss_one (ps_for PassesOwn.never rfl (pi_enumT (by rfl) B.enum (pa_cons (pv 2) pa_nil)) (pg_tup (by rfl) (pgs_cons (pg_name (i := 3) sc_check_orders.nd rfl (.inl rfl)) (pgs_cons (pg_name (i := 4) sc_check_orders.nd rfl (.inl rfl)) pgs_nil)))
        (pss_one (ps_if (PW.pt (pw_or (pt_cmpR op_eq (pv 3) (pe_glob (v := .int 20) rfl hM ⟨_, rfl⟩) (nomark _)) (pw_or1 (pt_not (pt_val (pe_call GI hr (by rfl) gI kI bI .nil pass0 (pa_cons (pv 0) (pa_cons (pv 1) (pa_cons (pv 4) pa_nil)))))))))
          (pss_one ps_never) pss_nil)))), ?_⟩
    refine ⟨_, rfl, _, _, _, _, true, rfl, .ty "tuple", .base (.tup ht), kit_ty (by decide +kernel), _, rfl, iteF ?_⟩
    refine ⟨_, rfl, t, ts, rfl, ht, for_enumT (K := K) (a := t) (xs := ts) (fun i σ H' => (∃ x y, σ = [some (.int p), some (.int h), some (.ref t), x, y]) ∧ Same H H') ⟨⟨_, _, rfl⟩, .refl H⟩ (fun i σ H' ⟨_, s1⟩ => s1 _ _ ht) ?_ ?_⟩
    · rintro i x σ H1 T hi ⟨⟨x3, x4, rfl⟩, s1⟩ nT
      have s2 := same_upd (o := HO.tup [.int (i : Nat), x]) nT
      have hil : i < ts.length := (List.getElem?_eq_some_iff.mp hi).1
      have hlen := hP.length
      have hlen2 := N.len
      refine ⟨T, _, rfl, SqT.of upd_same, rfl, _, _, rfl, _, _, rfl, rfl, ?_⟩
      refine ⟨_, rfl, rfl, _, rfl, ?_⟩
      have e1 : decide (V.int ((i : Nat) : Int) = V.int 20) = false := decide_eq_false fun z => by
        have z2 := V.int.inj z
        omega
      rw [e1]
      obtain ⟨x', hx', ho⟩ := Paired.get? (i := i) hP (List.getElem?_eq_getElem (by omega))
      obtain rfl : x' = x := Option.some.inj (hx'.symm.trans hi)
      have hk := N.ok _ (List.getElem_mem (by omega : i < os.length))
      exact iteF ⟨_, rfl, _, rfl, _, rfl, x', p, h, true, rfl, OrdAt.like hk (ho.keep (tk_of (s1.trans s2))), _, rfl, iteF ⟨⟨_, _, rfl⟩, s1.trans s2⟩⟩
    · rintro σ H1 ⟨_, s1⟩
      exact q H1 s1
end
/-! the table of the orders that are followed -/
def amongB (p f : Nat) : Nat → Nat → Bool
  | 0, _ => false
  | l + 1, d => amongB p f l d || decide ((f + l) % p = d)
theorem amongB_iff {p f d : Nat} : ∀ l, amongB p f l d = true ↔ among p f l d
  | 0 => ⟨fun h => Bool.noConfusion h, fun h => absurd h (among_zero _ _ _)⟩
  | l + 1 => by
    show (amongB p f l d || decide ((f + l) % p = d)) = true ↔ _
    rw [among_succ, Bool.or_eq_true, amongB_iff l, decide_eq_true_iff]
def cellV (p : Nat) (os : List Od) (s d : Nat) : V := optV (idx p os s (d : Int))
/-- amid the order o, the k-th: its first l days are done -/
def cellM (p : Nat) (os : List Od) (o : Od) (k l s d : Nat) : V := optV ((idx p os s (d : Int)).or (if (decide (s = o.s) && amongB p o.f l d) = true then some k else none))
structure TabAt (H0 H : Hp) (fl : Addr) (p h : Nat) (g : Nat → Nat → V) (as : List Addr) : Prop where
  same : Same H0 H
  len : as.length = h
  fl0 : H0 fl = none
  flat : H fl = some (.lst (as.map V.ref))
  nd : as.Nodup
  out : fl ∉ as
  new : ∀ a ∈ as, H0 a = none
  row : ∀ i a, as[i]? = some a → H a = some (.lst ((List.range p).map (g i)))
theorem TabAt.congr {H0 H : Hp} {fl : Addr} {p h : Nat} {g g' : Nat → Nat → V} {as : List Addr} (T : TabAt H0 H fl p h g as) (e : ∀ s d, s < h → d < p → g s d = g' s d) : TabAt H0 H fl p h g' as := by
  refine { T with row := fun i a hi => ?_ }
  rw [T.row i a hi]
  have hi2 := (List.getElem?_eq_some_iff.mp hi).1
  rw [List.map_congr_left fun d hd => e i d (by rw [← T.len]; exact hi2) (List.mem_range.mp hd)]
theorem TabAt.keep {H0 H H' : Hp} {fl : Addr} {p h : Nat} {g : Nat → Nat → V} {as : List Addr} (T : TabAt H0 H fl p h g as) (s : Same H H') : TabAt H0 H' fl p h g as :=
  { T with same := T.same.trans s, flat := s _ _ T.flat, row := fun i a hi => s _ _ (T.row i a hi) }
theorem range_set {p dd : Nat} {g : Nat → V} {v : V} : ((List.range p).map g).set dd v = (List.range p).map fun d => if d = dd then v else g d := by
  apply List.ext_getElem
  · simp
  · intro i h1 h2
    rw [List.getElem_set]
    simp only [List.getElem_map, List.getElem_range]
    by_cases z : dd = i
    · subst z; simp
    · rw [if_neg z, if_neg (Ne.symm z)]
theorem TabAt.set {H0 H : Hp} {fl a : Addr} {p h s dd : Nat} {g : Nat → Nat → V} {as : List Addr} {v : V} (T : TabAt H0 H fl p h g as) (ha : as[s]? = some a) :
    TabAt H0 (upd H a (.lst (((List.range p).map (g s)).set dd v))) fl p h (fun i d => if i = s ∧ d = dd then v else g i d) as := by
  have ham : a ∈ as := List.mem_of_getElem? ha
  have sl : s < as.length := (List.getElem?_eq_some_iff.mp ha).1
  refine { T with same := fun b o e => ?_, flat := ?_, row := fun i b hi => ?_ }
  · have n : b ≠ a := fun z => by
      have q := T.new a ham
      rw [← z, e] at q
      cases q
    rw [upd_ne n]
    exact T.same _ _ e
  · have n : fl ≠ a := fun z => T.out (by rw [z]; exact ham)
    rw [upd_ne n]
    exact T.flat
  · by_cases z : i = s
    · subst z
      obtain rfl : b = a := Option.some.inj (hi.symm.trans ha)
      rw [upd_same, range_set]
      congr 2
      apply List.map_congr_left
      intro d _
      by_cases z2 : d = dd
      · simp [z2]
      · simp [z2]
    · have n : b ≠ a := fun z2 => by
        subst z2
        have i1 := (List.getElem?_eq_some_iff.mp hi)
        have i2 := (List.getElem?_eq_some_iff.mp ha)
        obtain ⟨l1, e1⟩ := i1
        obtain ⟨l2, e2⟩ := i2
        have pw := List.pairwise_iff_getElem.mp T.nd
        rcases Nat.lt_or_gt_of_ne z with q | q
        · exact pw i s l1 l2 q (e1.trans e2.symm)
        · exact pw s i l2 l1 q (e2.trans e1.symm)
      rw [upd_ne n, T.row i b hi]
      congr 2
      apply List.map_congr_left
      intro d _
      rw [if_neg (fun q => z q.1)]
def spFollowed : Sp := fun vs H Q _ => ∃ (t : Addr) (p h : Nat) (os : List Od), vs = [.int p, .int h, .ref t] ∧ NetOk p h os ∧ OrdsTup H t os ∧ ∀ H' fl as, TabAt H H' fl p h (cellV p os) as → Q (.ref fl) H'
theorem rep_flat {p : Nat} {v : V} : (List.replicate p [v]).flatten = List.replicate p v := by
  induction p with
  | zero => rfl
  | succ n ih => rw [List.replicate_succ, List.flatten_cons, ih]; rfl
theorem rep_range {p : Nat} {v : V} : List.replicate p v = (List.range p).map fun _ => v := by
  rw [List.map_const', List.length_range]
theorem optV_non {o : Option Nat} (h : optV o = .non) : o = none := by
  cases o with
  | none => rfl
  | some k => cases h
theorem cellM_hit {p i l s d : Nat} {os : List Od} {o : Od} (h : cellM p os o i l o.s ((o.f + l) % p) = .non) :
    (if s = o.s ∧ d = (o.f + l) % p then V.int (i : Nat) else cellM p os o i l s d) = cellM p os o i (l + 1) s d := by
  unfold cellM at *
  by_cases c : s = o.s ∧ d = (o.f + l) % p
  · rw [if_pos c]
    obtain ⟨c1, c2⟩ := c
    subst c1 c2
    have z := optV_non h
    rw [Option.or_eq_none_iff] at z
    rw [z.1]
    have e : (decide (o.s = o.s) && amongB p o.f (l + 1) ((o.f + l) % p)) = true := by
      rw [decide_eq_true rfl, Bool.true_and]
      exact (amongB_iff (l + 1)).mpr (among_succ.mpr (.inr rfl))
    rw [if_pos e]
    rfl
  · rw [if_neg c]
    have e : (decide (s = o.s) && amongB p o.f l d) = (decide (s = o.s) && amongB p o.f (l + 1) d) := by
      by_cases c1 : s = o.s
      · have c2 : ¬ (o.f + l) % p = d := fun z => c ⟨c1, z.symm⟩
        show _ = (_ && (amongB p o.f l d || decide ((o.f + l) % p = d)))
        rw [decide_eq_false c2, Bool.or_false]
      · rw [decide_eq_false c1, Bool.false_and, Bool.false_and]
    rw [e]
theorem cellM_miss {p i l s d : Nat} {os : List Od} {o : Od} (h : cellM p os o i l o.s ((o.f + l) % p) ≠ .non) : cellM p os o i l s d = cellM p os o i (l + 1) s d := by
  by_cases c : s = o.s ∧ d = (o.f + l) % p
  · obtain ⟨c1, c2⟩ := c
    subst c1 c2
    unfold cellM at *
    have e : (decide (o.s = o.s) && amongB p o.f (l + 1) ((o.f + l) % p)) = true := by
      rw [decide_eq_true rfl, Bool.true_and]
      exact (amongB_iff (l + 1)).mpr (among_succ.mpr (.inr rfl))
    rw [if_pos e]
    cases q : idx p os o.s ((o.f + l) % p : Nat) with
    | some k => rfl
    | none =>
      rw [q] at h
      by_cases c : (decide (o.s = o.s) && amongB p o.f l ((o.f + l) % p)) = true
      · rw [if_pos c]
      · rw [if_neg c] at h
        exact absurd rfl h
  · unfold cellM
    have e : (decide (s = o.s) && amongB p o.f l d) = (decide (s = o.s) && amongB p o.f (l + 1) d) := by
      by_cases c1 : s = o.s
      · have c2 : ¬ (o.f + l) % p = d := fun z => c ⟨c1, z.symm⟩
        show _ = (_ && (amongB p o.f l d || decide ((o.f + l) % p = d)))
        rw [decide_eq_false c2, Bool.or_false]
      · rw [decide_eq_false c1, Bool.false_and, Bool.false_and]
    rw [e]
theorem cellM_end {p h i s d : Nat} {os : List Od} {o : Od} (k : OdOk p h o) (hi : os[i]? = some o) (hd : d < p) : cellM p (os.take i) o i o.n s d = cellV p (os.take (i + 1)) s d := by
  unfold cellM cellV
  rw [idx_take_succ hi]
  have e : (decide (s = o.s) && amongB p o.f o.n d) = hit p s (d : Int) o := by
    unfold hit
    have e1 : amongB p o.f o.n d = onDay p o (d : Int) := by
      rw [Bool.eq_iff_iff, amongB_iff, among_on k hd]
    rw [e1]
    by_cases c : s = o.s
    · rw [decide_eq_true c, decide_eq_true c.symm]
    · rw [decide_eq_false c, decide_eq_false fun z => c z.symm]
  rw [e]
abbrev s_find_followed : Stmt := top 40
abbrev N_find_followed : List Str := ["period", "houses", "orders", "followed", "index", "source", "target", "first", "days", "delay", "later", "day", "house"]
abbrev P_find_followed : List Str := ["period", "houses", "orders"]
theorem sc_find_followed : FnScope N_find_followed P_find_followed (defScope s_find_followed) := ⟨rfl, rfl, rfl, by decide +kernel, rfl, by decide +kernel, by decide +kernel⟩
section
variable {P : Program} {w : World} {K : PySem.W.Frag} {mg : Str → Option Value} {base : Heap}
theorem ok_followed {f : Addr} {fd : FuncData} (F : Fun K "find_followed" "find_followed" s_find_followed f fd) (B : Blt mg) : FnOk P w K mg base CX0 2 f fd P_find_followed spFollowed := by
  refine F.ok sc_find_followed (fun vs H Q E h => ?_) (fun cdv A outer s H vs Q E hr h => ?_)
  · obtain ⟨t, p, h, os, rfl, _⟩ := h
    rfl
  · obtain ⟨t, p, h, os, rfl, N, hO, q⟩ := h
    obtain ⟨ts, ht, hP⟩ := id hO
    have p1 := N.p1; have p30 := N.p30; have h1 := N.h1; have h10 := N.h10; have ol := N.len
    refine ⟨_, pss_cons (ps_setLc (i := 3) (own := [("house", 12)]) (g := gName 12) (tt := tYes) (by rfl) sc_find_followed.nd rfl rfl (sw_true rfl rfl rfl (by decide +kernel))
          (pi_range1 rfl B.range (pa_cons (pv 1) pa_nil)) (blkOk_by (N := N_find_followed) (sc := defScope s_find_followed) (by decide +kernel)) (fun _ _ _ _ _ => pg_name (i := 12) sc_find_followed.nd rfl (.inl rfl)) (fun _ _ _ _ _ => pts_nil)
          (fun _ _ _ _ _ => pe_op op_rep (pe_lst (pa_cons pe_non pa_nil)) (pv 0)))
      (pss_cons (ps_for PassesOwn.never rfl (pi_enumT (by rfl) B.enum (pa_cons (pv 2) pa_nil)) (pg_tup (by rfl) (pgs_cons (pg_name (i := 4) sc_find_followed.nd rfl (.inl rfl)) (pgs_cons (pg_tup (by rfl)
            (pgs_cons (pg_name (i := 5) sc_find_followed.nd rfl (.inl rfl)) (pgs_cons (pg_name (i := 6) sc_find_followed.nd rfl (.inl rfl)) (pgs_cons (pg_name (i := 7) sc_find_followed.nd rfl (.inl rfl)) (pgs_cons (pg_name (i := 8) sc_find_followed.nd rfl (.inl rfl)) (pgs_cons (pg_name (i := 9) sc_find_followed.nd rfl (.inl rfl)) pgs_nil)))))) pgs_nil)))
        (pss_one (ps_for PassesOwn.never rfl (pi_range1 rfl B.range (pa_cons (pv 8) pa_nil)) (pg_name (i := 10) sc_find_followed.nd rfl (.inl rfl))
          (pss_cons (ps_set (i := 11) sc_find_followed.nd rfl (.inl rfl) (pe_op op_modN (pe_op op_add (pv 7) (pv 10)) (pv 0)))
          (pss_one (ps_if (pt_cmpR op_isN (pe_ix ix_list (pe_ix ix_list (pv 3) (pv 5) (fun _ _ => rfl)) (pv 11) (fun _ _ => rfl)) pe_non (nomark _))
            (pss_one (ps_asg (pv 4) (pg_sub (pe_ix ix_list (pv 3) (pv 5) (fun _ _ => rfl)) (pv 11) set_list))) pss_nil))))))
      (pss_one (ps_ret (pv 3)))), ?_⟩
    -- the empty table
    refine ⟨_, rfl, h, rfl, by omega, by omega, fun D nD => ?_⟩
    refine lc_range (lo := 0) (n := (h : Int).toNat) (fun i H' => ∃ as, TabAt H H' D p i (fun _ _ => .non) as) ⟨[], same_upd nD, rfl, nD, upd_same, List.nodup_nil, by simp, by simp, fun i a z => by simp at z⟩ ?_ ?_
    · rintro i H' hi ⟨as, T⟩
      refine ⟨rfl, Nat.le_trans (by decide : 1 ≤ 1000) (Nat.le_of_lt (small1000 (Nat.le_refl _))), fun l0 nl0 => ?_⟩
      have T1 := T.keep (same_upd (o := HO.lst [V.non]) nl0)
      refine ⟨_, rfl, l0, p, [.non], rfl, rfl, upd_same, by omega, by omega, Nat.le_of_lt (small1000 (by show 1 * (p : Int).toNat ≤ 1000; omega)), fun r nr => ?_⟩
      have T2 := T1.keep (same_upd (o := HO.lst (List.replicate (p : Int).toNat [V.non]).flatten) nr)
      have fD := T2.flat
      refine ⟨_, fD, small1000 (by rw [List.length_map, T.len]; omega), as ++ [r], ?_⟩
      have nrD : r ≠ D := (ne_of_none T1.flat nr).symm
      have nas : r ∉ as := fun z => by
        obtain ⟨j, hj⟩ := List.getElem?_of_mem z
        exact ne_of_none (T1.row j r hj) nr rfl
      have nr0 : H r = none := T1.same.free nr
      refine ⟨fun b o e => ?_, by rw [List.length_append, T.len]; rfl, T.fl0, ?_, ?_, ?_, ?_, ?_⟩
      · rw [upd_ne (ne_of_none e T.fl0)]
        exact T2.same _ _ e
      · rw [upd_same, List.map_append]
        rfl
      · rw [List.nodup_append]
        exact ⟨T.nd, by simp, fun a ha b hb => by rw [List.mem_singleton.mp hb]; exact fun z => nas (z ▸ ha)⟩
      · intro z
        rcases List.mem_append.mp z with z | z
        · exact T.out z
        · exact nrD (List.mem_singleton.mp z).symm
      · intro a ha
        rcases List.mem_append.mp ha with z | z
        · exact T.new a z
        · rw [List.mem_singleton.mp z]
          exact nr0
      · intro j a hj
        by_cases z : j < as.length
        · rw [List.getElem?_append_left z] at hj
          have hn : a ≠ D := fun z2 => T.out (by rw [← z2]; exact List.mem_of_getElem? hj)
          rw [upd_ne hn]
          exact T2.row j a hj
        · rw [List.getElem?_append_right (by omega)] at hj
          obtain ⟨hj1, hj2⟩ := List.getElem?_eq_some_iff.mp hj
          have e0 : j - as.length = 0 := by
            have : j - as.length < 1 := hj1
            omega
          have ea : a = r := by
            rw [e0] at hj
            exact (Option.some.inj hj).symm
          rw [ea, upd_ne nrD, upd_same, rep_flat, rep_range]
          rfl
    · rintro H1 ⟨as, T⟩
      have hO1 : H1 t = some (.tup ts) := T.same _ _ ht
      -- each order
      refine ⟨_, rfl, t, ts, rfl, hO1, for_enumT (K := K) (a := t) (xs := ts) (fun i σ H' => (∃ x4 x5 x6 x7 x8 x9 x10 x11, σ = [some (.int p), some (.int h), some (.ref t), some (.ref D), x4, x5, x6, x7, x8, x9, x10, x11, none]) ∧ TabAt H H' D p h (cellV p (os.take i)) as)
        ⟨⟨_, _, _, _, _, _, _, _, rfl⟩, by exact T.congr fun s d _ _ => rfl⟩ (fun i σ H' ⟨_, T'⟩ => T'.same _ _ ht) ?_ ?_⟩
      · rintro i x σ H2 X hi ⟨⟨x4, x5, x6, x7, x8, x9, x10, x11, rfl⟩, T2⟩ nX
        have T3 := T2.keep (same_upd (o := HO.tup [.int (i : Nat), x]) nX)
        have hil : i < ts.length := (List.getElem?_eq_some_iff.mp hi).1
        have hlen := hP.length
        have hio : os[i]? = some (os[i]'(by omega)) := List.getElem?_eq_getElem (by omega)
        obtain ⟨x', hx', y, rfl, hy⟩ := Paired.get? (i := i) hP hio
        obtain rfl : V.ref y = x := Option.some.inj (hx'.symm.trans hi)
        generalize eo : os[i]'(by omega) = o at hio hy
        have hk : OdOk p h o := by rw [← eo]; exact N.ok _ (List.getElem_mem _)
        have k1 := hk.s; have k4 := hk.f; have k5 := hk.n1; have k6 := hk.n
        have hy3 := T3.same _ _ hy
        refine ⟨X, _, rfl, SqT.of upd_same, rfl, _, _, rfl, _, _, rfl, ⟨y, _, rfl, SqT.of hy3, rfl, _, _, rfl, _, _, rfl, _, _, rfl, _, _, rfl, _, _, rfl, rfl, rfl, ?_⟩⟩
        refine ⟨_, rfl, o.n, rfl, by omega, by omega, for_range (lo := 0) (n := (o.n : Int).toNat) (fun l σ H' => (∃ x10 x11, σ = [some (.int p), some (.int h), some (.ref t), some (.ref D), some (.int (i : Nat)), some (.int o.s), some (.int o.t), some (.int o.f), some (.int o.n), some (.int o.e), x10, x11, none]) ∧ TabAt H H' D p h (cellM p (os.take i) o i l) as)
          ⟨⟨_, _, rfl⟩, T3.congr fun s d _ _ => ?_⟩ ?_ ?_⟩
        · show optV (idx p (os.take i) s d) = optV ((idx p (os.take i) s d).or (if (decide (s = o.s) && false) = true then some i else none))
          rw [Bool.and_false, if_neg Bool.false_ne_true, Option.or_none]
        · rintro l σ H4 hl ⟨⟨x10, x11, rfl⟩, T4⟩
          have hl2 : l < o.n := by omega
          refine ⟨_, rfl, _, rfl, _, _, rfl, rfl, _, rfl, _, _, rfl, rfl, by omega, ?_⟩
          have ed : Int.fmod ((o.f : Int) + (0 + (l : Int))) (p : Int) = (((o.f + l) % p : Nat) : Int) := by
            rw [Int.zero_add]
            exact fmod_nat (o.f + l) p
          have hd : (o.f + l) % p < p := Nat.mod_lt _ (by omega)
          generalize hdd : (o.f + l) % p = dd at ed hd
          have hsl : o.s < as.length := by rw [T4.len]; exact k1
          have ha := List.getElem?_eq_getElem hsl
          generalize as[o.s] = a at ha
          have hmap : (as.map V.ref)[o.s]? = some (.ref a) := by rw [List.getElem?_map, ha]; rfl
          have hrow := T4.row _ _ ha
          have hcell : ((List.range p).map (cellM p (os.take i) o i l o.s))[dd]? = some (cellM p (os.take i) o i l o.s dd) := by
            rw [List.getElem?_map, List.getElem?_range hd]
            rfl
          show ∃ v, _
          refine ⟨_, rfl, _, rfl, D, _, _, _, rfl, rfl, SqL.of T4.flat, atI_nat hmap, ?_⟩
          refine ⟨_, rfl, a, _, (dd : Int), _, rfl, by rw [← ed], SqL.of hrow, atI_nat hcell, ?_⟩
          refine ⟨rfl, _, rfl, ite2 (fun e => ?_) (fun e => ?_)⟩
          · have en : cellM p (os.take i) o i l o.s dd = .non := of_decide_eq_true e
            refine ⟨_, rfl, _, rfl, _, rfl, D, _, _, _, rfl, rfl, SqL.of T4.flat, atI_nat hmap, ?_⟩
            refine ⟨_, rfl, a, _, (dd : Int), dd, rfl, by rw [← ed], hrow, ix_at (by rw [List.length_map, List.length_range]; exact hd), ?_⟩
            refine ⟨⟨_, _, rfl⟩, (T4.set ha).congr fun s d hs hd2 => ?_⟩
            subst hdd
            exact cellM_hit en
          · refine ⟨⟨_, _, rfl⟩, T4.congr fun s d hs hd2 => ?_⟩
            subst hdd
            exact cellM_miss (fun z => e (decide_eq_true z))
        · rintro σ H4 ⟨⟨x10, x11, rfl⟩, T4⟩
          exact ⟨⟨_, _, _, _, _, _, _, _, rfl⟩, T4.congr fun s d hs hd => cellM_end hk hio hd⟩
      · rintro σ H2 ⟨⟨x4, x5, x6, x7, x8, x9, x10, x11, rfl⟩, T2⟩
        refine ⟨_, rfl, q _ D as (T2.congr fun s d _ _ => ?_)⟩
        rw [List.take_of_length_le (by rw [← hP.length]; exact Nat.le_refl _)]
end
abbrev s_Net_init : Stmt := inClass (top 36) 0
abbrev N_Net_init : List Str := ["self", "period", "houses", "orders"]
abbrev P_Net_init : List Str := ["self", "period", "houses", "orders"]
theorem sc_Net_init : FnScope N_Net_init P_Net_init (defScope s_Net_init) := ⟨rfl, rfl, rfl, by decide +kernel, rfl, by decide +kernel, by decide +kernel⟩
/-! ### a net, made and read -/
def NetFs (p h : Nat) (t fl : Addr) : List (Str × V) := putF "followed" (.ref fl) (putF "orders" (.ref t) (putF "houses" (.int h) (putF "period" (.int p) [])))
theorem sFO : ¬ ("orders" : Str) = "followed" := by decide +kernel
theorem sFH : ¬ ("houses" : Str) = "followed" := by decide +kernel
theorem sFP : ¬ ("period" : Str) = "followed" := by decide +kernel
theorem sOH : ¬ ("houses" : Str) = "orders" := by decide +kernel
theorem sOP : ¬ ("period" : Str) = "orders" := by decide +kernel
theorem sHP : ¬ ("period" : Str) = "houses" := by decide +kernel
theorem nf_fl {p h : Nat} {t fl : Addr} : (NetFs p h t fl).lookup ("followed" : Str) = some (.ref fl) := by
  unfold NetFs
  rw [lookup_putF, if_pos rfl]
theorem nf_or {p h : Nat} {t fl : Addr} : (NetFs p h t fl).lookup ("orders" : Str) = some (.ref t) := by
  unfold NetFs
  rw [lookup_putF, if_neg sFO, lookup_putF, if_pos rfl]
theorem nf_ho {p h : Nat} {t fl : Addr} : (NetFs p h t fl).lookup ("houses" : Str) = some (.int h) := by
  unfold NetFs
  rw [lookup_putF, if_neg sFH, lookup_putF, if_neg sOH, lookup_putF, if_pos rfl]
theorem nf_pe {p h : Nat} {t fl : Addr} : (NetFs p h t fl).lookup ("period" : Str) = some (.int p) := by
  unfold NetFs
  rw [lookup_putF, if_neg sFP, lookup_putF, if_neg sOP, lookup_putF, if_neg sHP, lookup_putF, if_pos rfl]
theorem nf_no {p h : Nat} {t fl : Addr} {m : Str} (h1 : ¬ m = "followed") (h2 : ¬ m = "orders") (h3 : ¬ m = "houses") (h4 : ¬ m = "period") : (NetFs p h t fl).lookup m = none := by
  unfold NetFs
  rw [lookup_putF, if_neg h1, lookup_putF, if_neg h2, lookup_putF, if_neg h3, lookup_putF, if_neg h4]
  rfl
/-- what the class says -/
structure NetT (K : PySem.W.Frag) (C : Addr) : Prop where
  cl : Cls K C
  nP : NoAttr K C "period"
  nH : NoAttr K C "houses"
  nO : NoAttr K C "orders"
  nF : NoAttr K C "followed"
/-- a net of these parts at x; F: its own addresses -/
def NetAt (C : Addr) (H : Hp) (x : Addr) (p h : Nat) (os : List Od) (t : Addr) (F : List Addr) : Prop := ∃ dx fl as, F = x :: fl :: as ∧ H x = some (.ins C dx (NetFs p h t fl)) ∧ OrdsTup H t os ∧
  H fl = some (.lst (as.map V.ref)) ∧ as.length = h ∧ ∀ i a, as[i]? = some a → H a = some (.lst ((List.range p).map (cellV p os i)))
theorem NetAt.keep {C : Addr} {H H' : Hp} {x : Addr} {p h : Nat} {os : List Od} {t : Addr} {F : List Addr} (N : NetAt C H x p h os t F) (k : TupKeep H H') (kf : ∀ b ∈ F, ∀ o, H b = some o → H' b = some o) : NetAt C H' x p h os t F := by
  obtain ⟨dx, fl, as, rfl, h1, h2, h3, h4, h5⟩ := N
  refine ⟨dx, fl, as, rfl, kf _ (by simp) _ h1, h2.keep k, kf _ (by simp) _ h3, h4, fun i a hi => kf _ ?_ _ (h5 i a hi)⟩
  exact List.mem_cons_of_mem _ (List.mem_cons_of_mem _ (List.mem_of_getElem? hi))
theorem NetAt.same {C : Addr} {H H' : Hp} {x : Addr} {p h : Nat} {os : List Od} {t : Addr} {F : List Addr} (N : NetAt C H x p h os t F) (s : Same H H') : NetAt C H' x p h os t F := N.keep (tk_of s) fun b _ o e => s b o e
theorem NetAt.but {C : Addr} {H H' : Hp} {x : Addr} {p h : Nat} {os : List Od} {t d : Addr} {F : List Addr} (N : NetAt C H x p h os t F) (s : But d H H') (k : TupKeep H H') (n : d ∉ F) : NetAt C H' x p h os t F := N.keep k fun b hb o e => s b o (fun z => n (z ▸ hb)) e
theorem NetAt.new {C : Addr} {H : Hp} {x : Addr} {p h : Nat} {os : List Od} {t u : Addr} {F : List Addr} (N : NetAt C H x p h os t F) (n : H u = none) : u ∉ F := by
  obtain ⟨dx, fl, as, rfl, h1, h2, h3, h4, h5⟩ := N
  intro z
  rcases List.mem_cons.mp z with z | z
  · exact ne_of_none h1 n z.symm
  rcases List.mem_cons.mp z with z | z
  · exact ne_of_none h3 n z.symm
  obtain ⟨j, hj⟩ := List.getElem?_of_mem z
  exact ne_of_none (h5 j u hj) n rfl
def spInit (C : Addr) : Sp := fun vs H Q _ => ∃ (x dx t : Addr) (p h : Nat) (os : List Od) (H0 : Hp), vs = [.ref x, .int p, .int h, .ref t] ∧ NetOk p h os ∧ OrdsTup H t os ∧ Same H0 H ∧ H0 x = none ∧ H x = some (.ins C dx []) ∧
  ∀ H' F, Same H0 H' → (∀ b ∈ F, H0 b = none) → NetAt C H' x p h os t F → Q .non H'
section
variable {P : Program} {w : World} {K : PySem.W.Frag} {mg : Str → Option Value} {base : Heap}
theorem ok_init {f C : Addr} {fd : FuncData} (F : Fun K "__init__" "Net.__init__" s_Net_init f fd) (T : NetT K C) (DW : Df P w K mg base "is_within" 2 P_is_within (spWithin K)) (DC : Df P w K mg base "check_orders" 4 P_check_orders spChkOrders)
    (DF : Df P w K mg base "find_followed" 2 P_find_followed spFollowed) (hP : ∃ t, mg "LONGEST_PERIOD" = some (.int 30 t)) (hH : ∃ t, mg "MOST_HOUSES" = some (.int 10 t)) : FnOk P w K mg base CX0 5 f fd P_Net_init (spInit C) := by
  obtain ⟨fW, fdW, gW, kW, bW, GW⟩ := DW
  obtain ⟨fC, fdC, gC, kC, bC, GC⟩ := DC
  obtain ⟨fF, fdF, gF, kF, bF, GF⟩ := DF
  obtain ⟨tkP, hP⟩ := hP
  obtain ⟨tkH, hH⟩ := hH
  refine F.ok sc_Net_init (fun vs H Q E h => ?_) (fun cdv A outer s H vs Q E hr h => ?_)
  · obtain ⟨x, dx, t, p, h, os, H0, rfl, _⟩ := h
    rfl
  · obtain ⟨x, dx, t, p, h, os, H0, rfl, N, hO, s0, x0, hx, q⟩ := h
    have hr1 : Room 2 _ := hr.mono (by decide)
    refine ⟨_, pss_cons (ps_if (pt_not (pt_val (pe_call GW hr1 (by rfl) gW kW bW .nil pass0 (pa_cons (pv 1) (pa_cons pe_int (pa_cons (pe_glob (v := .int 30) rfl hP ⟨_, rfl⟩) pa_nil)))))) (pss_one ps_never) pss_nil)
      (pss_cons (ps_if (pt_not (pt_val (pe_call GW hr1 (by rfl) gW kW bW .nil pass0 (pa_cons (pv 2) (pa_cons pe_int (pa_cons (pe_glob (v := .int 10) rfl hH ⟨_, rfl⟩) pa_nil)))))) (pss_one ps_never) pss_nil)
      (pss_cons (ps_expr (pe_call GC hr (by rfl) gC kC bC .nil pass0 (pa_cons (pv 1) (pa_cons (pv 2) (pa_cons (pv 3) pa_nil)))))
      (pss_cons (ps_fld (pv 0) (pv 1) rfl) (pss_cons (ps_fld (pv 0) (pv 2) rfl) (pss_cons (ps_fld (pv 0) (pv 3) rfl)
      (pss_one (ps_fld (pv 0) (pe_call GF hr1 (by rfl) gF kF bF .nil pass0 (pa_cons (pv 1) (pa_cons (pv 2) (pa_cons (pv 3) pa_nil)))) rfl))))))), ?_⟩
    have w1 : withinB (.int p) 1 30 = true := within_nat (lo := 1) (hi := 30) N.p1 N.p30
    have w2 : withinB (.int h) 1 10 = true := within_nat (lo := 1) (hi := 10) N.h1 N.h10
    refine ⟨_, rfl, .int p, 1, 30, rfl, .int, _, rfl, ?_⟩
    rw [w1]
    refine iteF ⟨_, rfl, .int h, 1, 10, rfl, .int, _, rfl, ?_⟩
    rw [w2]
    refine iteF ⟨_, rfl, _, rfl, _, rfl, t, p, h, os, rfl, N, hO, fun H1 s1 => ?_⟩
    have hx1 := s1 _ _ hx
    have nt : t ≠ x := by
      obtain ⟨ts, ht, _⟩ := hO
      exact ne_of ht hx (by intro z; cases z)
    refine ⟨_, rfl, _, rfl, x, C, dx, [], rfl, hx1, T.cl, T.nP, (by show 0 < 1000; decide), ?_⟩
    refine ⟨_, rfl, _, rfl, x, C, dx, _, rfl, upd_same, T.cl, T.nH, (by show 1 < 1000; decide), ?_⟩
    refine ⟨_, rfl, _, rfl, x, C, dx, _, rfl, upd_same, T.cl, T.nO, ?_, ?_⟩
    · show (putF "houses" _ (putF "period" _ [])).length < 1000
      have : (putF "houses" (.int (h : Int)) (putF "period" (.int (p : Int)) [])).length ≤ 2 := by
        show (if ("period" : Str) = "houses" then _ else _ : List (Str × V)).length ≤ 2
        rw [if_neg sHP]
        exact Nat.le_refl _
      omega
    rw [upd_upd, upd_upd]
    refine ⟨_, rfl, _, rfl, _, rfl, t, p, h, os, rfl, N, ?_, fun H2 fl as TT => ?_⟩
    · refine hO.keep fun b xs e => ?_
      have e1 := s1 _ _ e
      rw [upd_ne (ne_of e1 hx1 (by intro z; cases z))]
      exact e1
    have hx2 := TT.same _ _ (upd_same (H := H1) (a := x))
    have hflx : fl ≠ x := fun z => by
      have q1 := TT.fl0
      rw [z, upd_same] at q1
      cases q1
    have hasx : ∀ a ∈ as, a ≠ x := fun a ha z => by
      have q1 := TT.new a ha
      rw [z, upd_same] at q1
      cases q1
    refine ⟨_, rfl, x, C, dx, _, rfl, hx2, T.cl, T.nF, ?_, ?_⟩
    · show (putF "orders" _ (putF "houses" _ (putF "period" _ []))).length < 1000
      have : (putF "orders" (.ref t) (putF "houses" (.int (h : Int)) (putF "period" (.int (p : Int)) []))).length ≤ 3 := by
        show (putF "orders" (V.ref t) (if ("period" : Str) = "houses" then _ else _ : List (Str × V))).length ≤ 3
        rw [if_neg sHP]
        show (if ("period" : Str) = "orders" then _ else _ :: (if ("houses" : Str) = "orders" then _ else _) : List (Str × V)).length ≤ 3
        rw [if_neg sOP, if_neg sOH]
        exact Nat.le_refl _
      omega
    have free : ∀ b, b ≠ x → (L2.upd H1 x (.ins C dx (putF "orders" (.ref t) (putF "houses" (.int (h : Int)) (putF "period" (.int (p : Int)) []))))) b = none → H0 b = none := fun b nb e => by
      rw [upd_ne nb] at e
      exact s0.free (s1.free e)
    refine q _ (x :: fl :: as) (fun b o e => ?_) (fun b hb => ?_) ⟨dx, fl, as, rfl, upd_same, ?_, ?_, TT.len, fun i a hi => ?_⟩
    · have nb : b ≠ x := ne_of_none e x0
      rw [upd_ne nb]
      refine TT.same _ _ ?_
      rw [upd_ne nb]
      exact s1 _ _ (s0 _ _ e)
    · rcases List.mem_cons.mp hb with z | z
      · rw [z]; exact x0
      rcases List.mem_cons.mp z with z | z
      · rw [z]; exact free fl hflx TT.fl0
      · exact free b (hasx b z) (TT.new b z)
    · refine hO.keep fun b xs e => ?_
      have e1 := s1 _ _ e
      have nb : b ≠ x := ne_of e1 hx1 (by intro z; cases z)
      rw [upd_ne nb]
      refine TT.same _ _ ?_
      rw [upd_ne nb]
      exact e1
    · rw [upd_ne hflx]
      exact TT.flat
    · rw [upd_ne (hasx a (List.mem_of_getElem? hi))]
      exact TT.row i a hi
end
/-! ### the table, read -/
/-- where the table is read: followed[a][d % period] -/
theorem cell_read {C : Addr} {H : Hp} {x t : Addr} {p h a : Nat} {os : List Od} {F : List Addr} (N : NetAt C H x p h os t F) (ha : a < h) (hp : 0 < p) (d : Nat) : ∃ dx fl rows ro row, H x = some (.ins C dx (NetFs p h t fl)) ∧ H fl = some (.lst rows) ∧ rows[a]? = some (.ref ro) ∧ H ro = some (.lst row) ∧
    row[d % p]? = some (optV (idx p os a (d : Int))) := by
  obtain ⟨dx, fl, as, _, hx, _, hfl, hlen, hr⟩ := N
  have hal : a < as.length := by omega
  have e := List.getElem?_eq_getElem hal
  refine ⟨dx, fl, _, as[a], _, hx, hfl, by rw [List.getElem?_map, e]; rfl, hr a _ e, ?_⟩
  rw [List.getElem?_map, List.getElem?_range (Nat.mod_lt _ hp)]
  show some (optV (idx p os a ((d % p : Nat) : Int))) = _
  rw [idx_nat]
abbrev s_check_house : Stmt := top 22
abbrev N_check_house : List Str := ["net", "house"]
abbrev P_check_house : List Str := ["net", "house"]
theorem sc_check_house : FnScope N_check_house P_check_house (defScope s_check_house) := ⟨rfl, rfl, rfl, by decide +kernel, rfl, by decide +kernel, by decide +kernel⟩
abbrev s_check_day : Stmt := top 23
abbrev N_check_day : List Str := ["day"]
abbrev P_check_day : List Str := ["day"]
theorem sc_check_day : FnScope N_check_day P_check_day (defScope s_check_day) := ⟨rfl, rfl, rfl, by decide +kernel, rfl, by decide +kernel, by decide +kernel⟩
abbrev s_check_letter : Stmt := top 25
abbrev N_check_letter : List Str := ["net", "house", "day"]
abbrev P_check_letter : List Str := ["net", "house", "day"]
theorem sc_check_letter : FnScope N_check_letter P_check_letter (defScope s_check_letter) := ⟨rfl, rfl, rfl, by decide +kernel, rfl, by decide +kernel, by decide +kernel⟩
/-! ### letters: checks, the order followed, one hop, idle orders -/
def spHouse (C : Addr) : Sp := fun vs H Q _ => ∃ (x t : Addr) (p h a : Nat) (os : List Od) (F : List Addr), vs = [.ref x, .int a] ∧ NetAt C H x p h os t F ∧ a < h ∧ Q .non H
def spDay : Sp := fun vs H Q _ => ∃ (d : Nat), vs = [.int d] ∧ d ≤ 1000000000000000000 ∧ Q .non H
def spLetter (C : Addr) : Sp := fun vs H Q _ => ∃ (x t : Addr) (p h a d : Nat) (os : List Od) (F : List Addr), vs = [.ref x, .int a, .int d] ∧ NetAt C H x p h os t F ∧ a < h ∧ d ≤ 1000000000000000000 ∧ Q .non H
section
variable {P : Program} {w : World} {K : PySem.W.Frag} {mg : Str → Option Value} {base : Heap}
theorem ok_house {f C : Addr} {fd : FuncData} (F : Fun K "check_house" "check_house" s_check_house f fd) (T : NetT K C) (DW : Df P w K mg base "is_within" 2 P_is_within (spWithin K)) : FnOk P w K mg base CX0 3 f fd P_check_house (spHouse C) := by
  obtain ⟨fW, fdW, gW, kW, bW, GW⟩ := DW
  refine F.ok sc_check_house (fun vs H Q E h => ?_) (fun cdv A outer s H vs Q E hr h => ?_)
  · obtain ⟨x, t, p, h, a, os, F, rfl, _⟩ := h
    rfl
  · obtain ⟨x, t, p, h, a, os, F, rfl, ⟨dx, fl, as, _, hx, _⟩, ha, q⟩ := h
    refine ⟨_, pss_one (ps_if (pt_not (pt_val (pe_call GW hr (by rfl) gW kW bW .nil pass0 (pa_cons (pv 1) (pa_cons pe_int (pa_cons (pe_op op_sub (pe_fld (pv 0) rfl) pe_int) pa_nil)))))) (pss_one ps_never) pss_nil), ?_⟩
    have w1 : withinB (.int a) 0 ((h : Int) - 1) = true := by
      rw [show ((h : Int) - 1) = ((h - 1 : Nat) : Int) by omega]
      exact within_nat (lo := 0) (Nat.zero_le _) (by omega)
    refine ⟨_, rfl, _, rfl, x, C, dx, _, _, rfl, hx, T.cl, T.nH, nf_ho, _, _, rfl, rfl, .int a, 0, (h : Int) - 1, rfl, .int, _, rfl, ?_⟩
    rw [w1]
    exact iteF q
theorem ok_day {f : Addr} {fd : FuncData} (F : Fun K "check_day" "check_day" s_check_day f fd) (DW : Df P w K mg base "is_within" 2 P_is_within (spWithin K)) (hL : ∃ t, mg "LAST_DAY" = some (.int 1000000000000000000 t)) : FnOk P w K mg base CX0 3 f fd P_check_day spDay := by
  obtain ⟨fW, fdW, gW, kW, bW, GW⟩ := DW
  obtain ⟨tkL, hL⟩ := hL
  refine F.ok sc_check_day (fun vs H Q E h => ?_) (fun cdv A outer s H vs Q E hr h => ?_)
  · obtain ⟨d, rfl, _⟩ := h
    rfl
  · obtain ⟨d, rfl, hd, q⟩ := h
    refine ⟨_, pss_one (ps_if (pt_not (pt_val (pe_call GW hr (by rfl) gW kW bW .nil pass0 (pa_cons (pv 0) (pa_cons pe_int (pa_cons (pe_glob (v := .int 1000000000000000000) rfl hL ⟨_, rfl⟩) pa_nil)))))) (pss_one ps_never) pss_nil), ?_⟩
    have w1 : withinB (.int d) 0 1000000000000000000 = true := within_nat (lo := 0) (hi := 1000000000000000000) (Nat.zero_le _) hd
    refine ⟨_, rfl, .int d, 0, 1000000000000000000, rfl, .int, _, rfl, ?_⟩
    rw [w1]
    exact iteF q
theorem ok_letter {f C : Addr} {fd : FuncData} (F : Fun K "check_letter" "check_letter" s_check_letter f fd) (DH : Df P w K mg base "check_house" 3 P_check_house (spHouse C)) (DD : Df P w K mg base "check_day" 3 P_check_day spDay) : FnOk P w K mg base CX0 4 f fd P_check_letter (spLetter C) := by
  obtain ⟨fH, fdH, gH, kH, bH, GH⟩ := DH
  obtain ⟨fD, fdD, gD, kD, bD, GD⟩ := DD
  refine F.ok sc_check_letter (fun vs H Q E h => ?_) (fun cdv A outer s H vs Q E hr h => ?_)
  · obtain ⟨x, t, p, h, a, d, os, F, rfl, _⟩ := h
    rfl
  · obtain ⟨x, t, p, h, a, d, os, F, rfl, N, ha, hd, q⟩ := h
    refine ⟨_, pss_cons (ps_expr (pe_call GH hr (by rfl) gH kH bH .nil pass0 (pa_cons (pv 0) (pa_cons (pv 1) pa_nil)))) (pss_one (ps_expr (pe_call GD hr (by rfl) gD kD bD .nil pass0 (pa_cons (pv 2) pa_nil)))), ?_⟩
    exact ⟨_, rfl, _, rfl, x, t, p, h, a, os, F, rfl, N, ha, _, rfl, d, rfl, hd, q⟩
end
abbrev s_Net_stop_after : Stmt := inClass (top 36) 2
abbrev N_Net_stop_after : List Str := ["self", "house", "day", "index", "source", "target", "first", "days", "delay"]
abbrev P_Net_stop_after : List Str := ["self", "house", "day"]
theorem sc_Net_stop_after : FnScope N_Net_stop_after P_Net_stop_after (defScope s_Net_stop_after) := ⟨rfl, rfl, rfl, by decide +kernel, rfl, by decide +kernel, by decide +kernel⟩
section
variable {P : Program} {w : World} {K : PySem.W.Frag} {mg : Str → Option Value} {base : Heap}
/-- a stop, or None -/
def StopV (H H' : Hp) (v : V) : Option (Nat × Nat) → Prop
  | none => v = .non
  | some s => ∃ u, v = .ref u ∧ H u = none ∧ H' u = some (.tup [.int s.1, .int s.2])
def spStop (C : Addr) : Sp := fun vs H Q _ => ∃ (x t : Addr) (p h a d : Nat) (os : List Od) (F : List Addr), vs = [.ref x, .int a, .int d] ∧ NetAt C H x p h os t F ∧ 0 < p ∧ a < h ∧
  ∀ H' v, Same H H' → StopV H H' v (hop p os (a, d)) → Q v H'
theorem ok_stop_after {f C : Addr} {fd : FuncData} (F : Fun K "stop_after" "Net.stop_after" s_Net_stop_after f fd) (T : NetT K C) : FnOk P w K mg base CX0 2 f fd P_Net_stop_after (spStop C) := by
  refine F.ok sc_Net_stop_after (fun vs H Q E h => ?_) (fun cdv A outer s H vs Q E hr h => ?_)
  · obtain ⟨x, t, p, h, a, d, os, F, rfl, _⟩ := h
    rfl
  · obtain ⟨x, t, p, h, a, d, os, F, rfl, N, hp, ha, q⟩ := h
    refine ⟨_, pss_cons (ps_set (i := 3) sc_Net_stop_after.nd rfl (.inl rfl) (pe_ix ix_list (pe_ix ix_list (pe_fld (pv 0) rfl) (pv 1) (fun _ _ => rfl)) (pe_op op_modN (pv 2) (pe_fld (pv 0) rfl)) (fun _ _ => rfl)))
      (pss_cons (ps_if (pt_cmpR op_isN (pv 3) pe_non (nomark _)) (pss_one (ps_ret pe_non)) pss_nil)
      (pss_cons (ps_asg (pe_ix ix_tup (pe_fld (pv 0) rfl) (pv 3) (fun _ _ => rfl)) (pg_tup (by rfl) (pgs_cons (pg_name (i := 4) sc_Net_stop_after.nd rfl (.inl rfl)) (pgs_cons (pg_name (i := 5) sc_Net_stop_after.nd rfl (.inl rfl)) (pgs_cons (pg_name (i := 6) sc_Net_stop_after.nd rfl (.inl rfl))
        (pgs_cons (pg_name (i := 7) sc_Net_stop_after.nd rfl (.inl rfl)) (pgs_cons (pg_name (i := 8) sc_Net_stop_after.nd rfl (.inl rfl)) pgs_nil)))))))
      (pss_one (ps_ret (pe_tup (pa_cons (pv 5) (pa_cons (pe_op op_add (pv 2) (pv 8)) pa_nil))))))), ?_⟩
    obtain ⟨dx, fl, rows, ro, row, hx, hfl, hrows, hro, hrow⟩ := cell_read N ha hp d
    obtain ⟨_, _, _, _, hx', ⟨ts, ht, hP⟩, _⟩ := N
    refine ⟨_, rfl, x, C, dx, _, _, rfl, hx, T.cl, T.nF, nf_fl, _, rfl, fl, _, _, _, rfl, rfl, SqL.of hfl, atI_nat hrows, ?_⟩
    refine ⟨_, rfl, _, rfl, x, C, dx, _, _, rfl, hx, T.cl, T.nP, nf_pe, _, _, rfl, rfl, by omega, ?_⟩
    refine ⟨ro, _, ((d % p : Nat) : Int), _, rfl, ?_, SqL.of hro, atI_nat hrow, ?_⟩
    · show V.int ((d : Int).fmod (p : Int)) = _
      rw [fmod_nat]
    refine ⟨_, rfl, rfl, _, rfl, ?_⟩
    unfold hop at q
    cases e : idx p os a (d : Int) with
    | none =>
      simp only [e] at q
      exact iteT (q H .non (.refl H) rfl)
    | some k =>
      simp only [e] at q
      have hk := idx_lt e
      have hko := List.getElem?_eq_getElem hk
      obtain ⟨v, hv, u, rfl, hu⟩ := Paired.get? (i := k) hP hko
      rw [hko] at q
      generalize os[k] = o at q hu
      refine iteF ⟨_, rfl, x, C, dx, _, _, rfl, hx, T.cl, T.nO, nf_or, _, rfl, t, ts, _, _, rfl, rfl, SqT.of ht, atI_nat hv, ?_⟩
      refine ⟨u, _, rfl, SqT.of hu, rfl, _, _, rfl, _, _, rfl, _, _, rfl, _, _, rfl, _, _, rfl, rfl, ?_⟩
      refine ⟨_, rfl, _, rfl, _, rfl, _, _, rfl, rfl, (by show 2 ≤ sizeLine; decide), fun y ny => ?_⟩
      refine q _ _ (same_upd ny) ⟨y, rfl, ny, ?_⟩
      rw [upd_same]
      show some (HO.tup [V.int o.t, V.int ((d : Int) + (o.e : Int))]) = some (HO.tup [V.int o.t, V.int ((d + o.e : Nat) : Int)])
      rw [Int.natCast_add]
end
/-! ### stops and what is still to come: plain -/
def StopAt (H : Hp) (v : V) (s : Nat × Nat) : Prop := ∃ u, v = .ref u ∧ H u = some (.tup [.int s.1, .int s.2])
theorem StopAt.keep {H H' : Hp} {v : V} {s : Nat × Nat} (k : TupKeep H H') (h : StopAt H v s) : StopAt H' v s := by
  obtain ⟨u, e, hu⟩ := h
  exact ⟨u, e, k _ _ hu⟩
theorem StopsAt.keep {H H' : Hp} {vs : List V} {l : List (Nat × Nat)} (k : TupKeep H H') (h : Paired (StopAt H) vs l) : Paired (StopAt H') vs l := Paired.mapP h fun _ _ q => q.keep k
/-- what is still to come from a stop (or none) -/
def rest (p : Nat) (os : List Od) (n : Nat) : Option (Nat × Nat) → List (Nat × Nat)
  | none => []
  | some s => way p os n s
theorem rest_succ (p : Nat) (os : List Od) (n : Nat) (s : Nat × Nat) : rest p os (n + 1) (some s) = s :: rest p os n (hop p os s) := by
  show way p os (n + 1) s = _
  unfold way
  cases hop p os s <;> rfl
theorem rest_zero (p : Nat) (os : List Od) (o : Option (Nat × Nat)) : rest p os 0 o = [] := by cases o <;> rfl
theorem hop_house {p h : Nat} {os : List Od} {s s' : Nat × Nat} (k : NetOk p h os) (e : hop p os s = some s') : s'.1 < h := by
  unfold hop at e
  cases q : idx p os s.1 (s.2 : Int) with
  | none =>
    rw [q] at e
    cases e
  | some j =>
    simp only [q] at e
    have hj := idx_lt q
    rw [List.getElem?_eq_getElem hj] at e
    rw [← Option.some.inj e]
    exact (k.ok _ (List.getElem_mem hj)).t
/-! ### ways: plain -/
theorem way_len (p : Nat) (os : List Od) : ∀ (n : Nat) (st : Nat × Nat), (way p os n st).length ≤ n
  | 0, _ => Nat.le_refl _
  | n + 1, st => by
    show (way p os (n + 1) st).length ≤ n + 1
    rw [show way p os (n + 1) st = rest p os (n + 1) (some st) from rfl, rest_succ]
    cases h : hop p os st with
    | none => exact Nat.succ_le_succ (Nat.zero_le _)
    | some s' => exact Nat.succ_le_succ (way_len p os n s')
theorem way_house {p h : Nat} {os : List Od} (k : NetOk p h os) : ∀ {n : Nat} {st : Nat × Nat}, st.1 < h → ∀ s ∈ way p os n st, s.1 < h
  | 0, _, _, _, hm => by cases hm
  | n + 1, st, h0, s, hm => by
    rw [show way p os (n + 1) st = rest p os (n + 1) (some st) from rfl, rest_succ] at hm
    rcases List.mem_cons.mp hm with e | hm
    · rw [e]; exact h0
    · cases q : hop p os st with
      | none => rw [q] at hm; cases hm
      | some s' =>
        rw [q] at hm
        exact way_house k (hop_house k q) s hm
/-- the i-th stop, by going on from it -/
theorem way_drop {p : Nat} {os : List Od} : ∀ {n i : Nat} {st s : Nat × Nat}, (way p os n st)[i]? = some s → (way p os n st).drop i = way p os (n - i) s
  | 0, _, _, _, h => by cases h
  | n + 1, 0, st, s, h => by
    have e : st = s := Option.some.inj h
    subst e
    rfl
  | n + 1, i + 1, st, s, h => by
    have e : way p os (n + 1) st = st :: rest p os n (hop p os st) := rest_succ p os n st
    rw [e] at h ⊢
    rw [List.getElem?_cons_succ] at h
    rw [List.drop_succ_cons, Nat.succ_sub_succ]
    cases q : hop p os st with
    | none => rw [q] at h; cases h
    | some s' =>
      rw [q] at h
      exact way_drop h
/-! ### a letter followed to its end -/
def plc (p : Nat) (s : Nat × Nat) : Nat × Nat := (s.1, s.2 % p)
/-- the stops up to the first that comes back to an earlier one's place, and that one's index -/
def fol (p : Nat) : List (Nat × Nat) → List (Nat × Nat) → List (Nat × Nat) × Option Nat
  | done, [] => (done, none)
  | done, s :: r => match done.findIdx? (fun t => decide (plc p t = plc p s)) with
    | some b => (done ++ [s], some b)
    | none => fol p (done ++ [s]) r
def folR (p h : Nat) (os : List Od) (st : Nat × Nat) : List (Nat × Nat) × Option Nat := fol p [] (way p os (h * p + 1) st)
def keyOf (p : Nat) (s : Nat × Nat) : List Key := [Sum.inl (s.1 : Int), Sum.inl ((s.2 % p : Nat) : Int)]
def kvsFrom (p : Nat) : Nat → List (Nat × Nat) → List (List Key × V)
  | _, [] => []
  | k, s :: r => (keyOf p s, .int (k : Nat)) :: kvsFrom p (k + 1) r
theorem keyOf_eq {p : Nat} {s t : Nat × Nat} : keyOf p t = keyOf p s ↔ plc p t = plc p s := by
  unfold keyOf plc
  constructor
  · intro h
    have h1 : (t.1 : Int) = s.1 := Sum.inl.inj (List.cons.inj h).1
    have h2 : ((t.2 % p : Nat) : Int) = ((s.2 % p : Nat) : Int) := Sum.inl.inj (List.cons.inj (List.cons.inj h).2).1
    exact Prod.ext (by show t.1 = s.1; omega) (by show t.2 % p = s.2 % p; omega)
  · intro h
    have h1 : t.1 = s.1 := (Prod.mk.inj h).1
    have h2 : t.2 % p = s.2 % p := (Prod.mk.inj h).2
    rw [h1, h2]
theorem kvs_val {p : Nat} {s : Nat × Nat} : ∀ (l : List (Nat × Nat)) (k : Nat), valV (kvsFrom p k l) (keyOf p s) = (l.findIdx? fun t => decide (plc p t = plc p s)).map fun i => V.int ((k + i : Nat) : Int)
  | [], _ => rfl
  | t :: r, k => by
    rw [List.findIdx?_cons]
    unfold kvsFrom valV
    rw [List.find?_cons]
    by_cases c : plc p t = plc p s
    · have c2 : keyOf p t = keyOf p s := keyOf_eq.mpr c
      simp only [c, c2, decide_true, if_true, Option.map_some]
      rfl
    · have c2 : ¬ keyOf p t = keyOf p s := fun z => c (keyOf_eq.mp z)
      simp only [c, c2, decide_false, Bool.false_eq_true, if_false]
      have ih := kvs_val (p := p) (s := s) r (k + 1)
      unfold valV at ih
      rw [ih, Option.map_map]
      congr 1
      funext i
      show V.int ((k + 1 + i : Nat) : Int) = V.int ((k + (i + 1) : Nat) : Int)
      rw [show k + 1 + i = k + (i + 1) by omega]
theorem kvs_len {p : Nat} : ∀ (l : List (Nat × Nat)) (k : Nat), (kvsFrom p k l).length = l.length
  | [], _ => rfl
  | _ :: r, k => by
    show (kvsFrom p (k + 1) r).length + 1 = r.length + 1
    rw [kvs_len r (k + 1)]
theorem kvs_snoc {p : Nat} {s : Nat × Nat} : ∀ (l : List (Nat × Nat)) (k : Nat), kvsFrom p k (l ++ [s]) = kvsFrom p k l ++ [(keyOf p s, .int ((k + l.length : Nat) : Int))]
  | [], _ => rfl
  | t :: r, k => by
    show (keyOf p t, V.int (k : Nat)) :: kvsFrom p (k + 1) (r ++ [s]) = _
    rw [kvs_snoc r (k + 1)]
    show _ = (keyOf p t, V.int (k : Nat)) :: (kvsFrom p (k + 1) r ++ [(keyOf p s, V.int ((k + (r.length + 1) : Nat) : Int))])
    rw [show k + 1 + r.length = k + (r.length + 1) by omega]
theorem putK_new {κ : Type} [DecidableEq κ] {kvs : List (κ × V)} {k : κ} {v : V} (h : valV kvs k = none) : putK kvs k v = kvs ++ [(k, v)] := by
  unfold putK
  have e : (kvs.any fun kv => decide (kv.1 = k)) = false := by
    unfold valV at h
    rw [Option.map_eq_none_iff, List.find?_eq_none] at h
    rw [List.any_eq_false]
    exact h
  rw [e, if_neg Bool.false_ne_true]
theorem pair_last {α β : Type} {F : α → β → Prop} {y : α} {s : β} : ∀ {xs : List α} {l : List β}, Paired F (xs ++ [y]) (l ++ [s]) → F y s
  | [], [], h => by cases h with | cons r _ => exact r
  | [], b :: l, h => by
    cases h with
    | cons _ t =>
      have := t.length
      simp at this
  | a :: xs, [], h => by
    cases h with
    | cons _ t =>
      have := t.length
      simp at this
  | a :: xs, b :: l, h => by
    cases h with
    | cons _ t => exact pair_last t
theorem pair_split {α β : Type} {F : α → β → Prop} {s : β} : ∀ {l : List β} {xs : List α}, Paired F xs (l ++ [s]) → ∃ ys v, xs = ys ++ [v] ∧ Paired F ys l ∧ F v s
  | [], _, h => by
    cases h with
    | cons r t =>
      cases t
      exact ⟨[], _, rfl, .nil, r⟩
  | b :: l, _, h => by
    cases h with
    | cons r t =>
      obtain ⟨ys, v, rfl, h1, h2⟩ := pair_split t
      exact ⟨_ :: ys, v, rfl, .cons r h1, h2⟩
/-- what follow gives: the stops' list, the index -/
def FolAt (H H' : Hp) (r : Addr) (res : List (Nat × Nat) × Option Nat) : Prop := ∃ sl vs, H r = none ∧ H' r = some (.tup [.ref sl, optV res.2]) ∧ H sl = none ∧ H' sl = some (.lst vs) ∧ Paired (StopAt H') vs res.1
/-! ### cuts -/
theorem cut_from {xs : List V} {n : Nat} : cutV xs (some (n : Int)) none = xs.drop n := by
  unfold cutV
  rw [HT.sIx_nat, HT.sIx_none]
  by_cases c : n ≤ xs.length
  · rw [Nat.min_eq_left c, List.take_of_length_le (by rw [List.length_drop]; exact Nat.le_refl _)]
  · rw [Nat.min_eq_right (by omega), Nat.sub_self, List.take_zero, List.drop_eq_nil_iff.mpr (by omega)]
theorem cut_to {xs : List V} {n : Nat} : cutV xs none (some (n : Int)) = xs.take n := by
  unfold cutV
  rw [HT.sIx_none, HT.sIx_nat, List.drop_zero, Nat.sub_zero]
  by_cases c : n ≤ xs.length
  · rw [Nat.min_eq_left c]
  · rw [Nat.min_eq_right (by omega), List.take_of_length_le (Nat.le_refl _), List.take_of_length_le (by omega)]
/-! ### stops followed: plain mathematics -/
theorem fol_ne {p : Nat} : ∀ (l d : List (Nat × Nat)), (d ≠ [] ∨ l ≠ []) → (fol p d l).1 ≠ []
  | [], d, h => by
    rcases h with h | h
    · exact h
    · exact absurd rfl h
  | s :: r, d, _ => by
    unfold fol
    cases (d.findIdx? fun t => decide (plc p t = plc p s)) with
    | some b => simp
    | none => exact fol_ne r (d ++ [s]) (.inl (by simp))
theorem fol_len {p : Nat} : ∀ (l d : List (Nat × Nat)), (fol p d l).1.length ≤ d.length + l.length
  | [], d => by
    show d.length ≤ _
    omega
  | s :: r, d => by
    unfold fol
    cases (d.findIdx? fun t => decide (plc p t = plc p s)) with
    | some b =>
      show (d ++ [s]).length ≤ _
      rw [List.length_append, List.length_singleton, List.length_cons]
      omega
    | none =>
      have := fol_len (p := p) r (d ++ [s])
      rw [List.length_append, List.length_singleton] at this
      rw [List.length_cons]
      show (fol p (d ++ [s]) r).1.length ≤ _
      omega
theorem folR_ne {p h : Nat} {os : List Od} {st : Nat × Nat} : (folR p h os st).1 ≠ [] := by
  unfold folR
  refine fol_ne _ _ (.inr ?_)
  show way p os (h * p + 1) st ≠ []
  rw [show way p os (h * p + 1) st = rest p os (h * p + 1) (some st) from rfl, rest_succ]
  exact List.cons_ne_nil _ _
theorem folR_len {p h : Nat} {os : List Od} {st : Nat × Nat} : (folR p h os st).1.length ≤ h * p + 1 := by
  have h1 := fol_len (p := p) (way p os (h * p + 1) st) []
  have h2 := way_len p os (h * p + 1) st
  unfold folR
  simp only [List.length_nil, Nat.zero_add] at h1
  exact Nat.le_trans h1 h2
theorem small301 {p h : Nat} {os : List Od} (k : NetOk p h os) : h * p + 1 ≤ 301 := by
  have : h * p ≤ 10 * 30 := Nat.mul_le_mul k.h10 k.p30
  omega
theorem optV_isN {o : Option Nat} : decide (optV o = .non) = o.isNone := by cases o <;> rfl
theorem pair_drop {α β : Type} {F : α → β → Prop} {xs : List α} {l : List β} (h : Paired F xs l) : ∀ n, Paired F (xs.drop n) (l.drop n) := by
  induction h with
  | nil =>
    intro n
    rw [List.drop_nil, List.drop_nil]
    exact .nil
  | cons r t ih =>
    intro n
    cases n with
    | zero => exact .cons r t
    | succ n => exact ih n
theorem nodup_bound : ∀ (n : Nat) (l : List Nat), l.Nodup → (∀ x ∈ l, x < n) → l.length ≤ n
  | 0, [], _, _ => Nat.le_refl _
  | 0, x :: l, _, h => absurd (h x List.mem_cons_self) (Nat.not_lt_zero _)
  | n + 1, l, nd, h => by
    by_cases c : n ∈ l
    · have h1 : (l.erase n).length ≤ n := nodup_bound n (l.erase n) (nd.erase n) fun x hx => by
        have h2 := (List.Nodup.mem_erase_iff nd).mp hx
        have h3 := h x h2.2
        have h4 : x ≠ n := h2.1
        omega
      have h2 := List.length_erase_of_mem c
      omega
    · have h1 : l.length ≤ n := nodup_bound n l nd fun x hx => by
        have h3 := h x hx
        have h4 : x ≠ n := fun e => c (e ▸ hx)
        omega
      omega
/-- stops at different places are few -/
theorem places_bound {p h : Nat} {l : List (Nat × Nat)} (hp : 0 < p) (hh : ∀ s ∈ l, s.1 < h) (nd : (l.map (plc p)).Nodup) : l.length ≤ h * p := by
  have e : (l.map fun s => s.1 * p + s.2 % p).length = l.length := List.length_map _
  rw [← e]
  refine nodup_bound (h * p) _ ?_ ?_
  · have e2 : (l.map fun s => s.1 * p + s.2 % p) = (l.map (plc p)).map fun s => s.1 * p + s.2 := by
      rw [List.map_map]
      rfl
    rw [e2]
    have lt : ∀ s ∈ l.map (plc p), s.2 < p := fun s hs => by
      obtain ⟨t, _, rfl⟩ := List.mem_map.mp hs
      exact Nat.mod_lt _ hp
    generalize l.map (plc p) = ps at nd lt
    clear e e2 hh
    induction ps with
    | nil => exact List.nodup_nil
    | cons s r ih =>
      rw [List.nodup_cons] at nd
      rw [List.map_cons, List.nodup_cons]
      refine ⟨fun hm => ?_, ih nd.2 fun t ht => lt t (List.mem_cons_of_mem _ ht)⟩
      obtain ⟨t, ht, et⟩ := List.mem_map.mp hm
      have l1 := lt s List.mem_cons_self
      have l2 := lt t (List.mem_cons_of_mem _ ht)
      have q1 : t.1 = s.1 := by
        have a1 : (t.1 * p + t.2) / p = (s.1 * p + s.2) / p := by rw [et]
        rw [Nat.mul_comm t.1, Nat.mul_comm s.1, Nat.mul_add_div hp, Nat.mul_add_div hp, Nat.div_eq_of_lt l1, Nat.div_eq_of_lt l2] at a1
        omega
      have q2 : t.2 = s.2 := by
        rw [q1] at et
        omega
      exact nd.1 (by rw [show s = t from Prod.ext q1.symm q2.symm]; exact ht)
  · intro x hx
    obtain ⟨s, hs, rfl⟩ := List.mem_map.mp hx
    have h1 := hh s hs
    have h2 : s.2 % p < p := Nat.mod_lt _ hp
    calc s.1 * p + s.2 % p < s.1 * p + p := by omega
      _ = (s.1 + 1) * p := by rw [Nat.add_mul, Nat.one_mul]
      _ ≤ h * p := Nat.mul_le_mul_right _ h1
/-- how a way goes on behind its i-th stop -/
theorem way_next {p : Nat} {os : List Od} {n i : Nat} {st c : Nat × Nat} (hc : (way p os n st)[i]? = some c) (hi : i + 1 < n) : (way p os n st).drop (i + 1) = rest p os (n - (i + 1)) (hop p os c) := by
  have h := way_drop hc
  have e : n - i = (n - (i + 1)) + 1 := by omega
  rw [e, show way p os (n - (i + 1) + 1) c = rest p os (n - (i + 1) + 1) (some c) from rfl, rest_succ] at h
  have := congrArg (List.drop 1) h
  rw [List.drop_drop] at this
  exact this
/-- destination's answer -/
def destOf (res : List (Nat × Nat) × Option Nat) : Option (Nat × Nat) := match res.2 with
  | some _ => none
  | none => res.1.getLast?
def OptStop (H' : Hp) (v : V) : Option (Nat × Nat) → Prop
  | none => v = .non
  | some s => StopAt H' v s
/-! ### where a letter is: plain mathematics -/
/-- the i-th stop of a letter's way -/
def stp (p : Nat) (os : List Od) : Nat → Nat × Nat → Option (Nat × Nat)
  | 0, st => some st
  | n + 1, st => (stp p os n st).bind (hop p os)
theorem way_get {p : Nat} {os : List Od} {n : Nat} {st : Nat × Nat} : ∀ {i : Nat}, i < n → (way p os n st)[i]? = stp p os i st
  | 0, h => by
    obtain ⟨n, rfl⟩ : ∃ m, n = m + 1 := ⟨n - 1, by omega⟩
    rw [show way p os (n + 1) st = rest p os (n + 1) (some st) from rfl, rest_succ]
    rfl
  | i + 1, h => by
    have ih := way_get (p := p) (os := os) (n := n) (st := st) (i := i) (by omega)
    show _ = (stp p os i st).bind (hop p os)
    cases q : (way p os n st)[i]? with
    | none =>
      rw [← ih, q]
      rw [List.getElem?_eq_none_iff] at q
      exact List.getElem?_eq_none_iff.mpr (by omega)
    | some c =>
      rw [← ih, q]
      have e := way_next q h
      have e2 := congrArg (fun l => l[0]?) e
      simp only [List.getElem?_drop, Nat.add_zero] at e2
      rw [e2]
      obtain ⟨k, hk⟩ : ∃ k, n - (i + 1) = k + 1 := ⟨n - (i + 1) - 1, by omega⟩
      rw [hk]
      show (rest p os (k + 1) (hop p os c))[0]? = hop p os c
      cases hop p os c with
      | none => rfl
      | some s =>
        rw [rest_succ]
        rfl
theorem stp_add {p : Nat} {os : List Od} {i : Nat} {st : Nat × Nat} : ∀ {j : Nat}, stp p os (i + j) st = (stp p os i st).bind (stp p os j)
  | 0 => by
    show stp p os i st = _
    cases stp p os i st <;> rfl
  | j + 1 => by
    show (stp p os (i + j) st).bind (hop p os) = _
    rw [stp_add]
    cases stp p os i st <;> rfl
theorem hop_more {p h : Nat} {os : List Od} {c s : Nat × Nat} (k : NetOk p h os) (e : hop p os c = some s) : c.2 < s.2 := by
  unfold hop at e
  cases q : idx p os c.1 (c.2 : Int) with
  | none =>
    rw [q] at e
    cases e
  | some j =>
    simp only [q] at e
    have hj := idx_lt q
    rw [List.getElem?_eq_getElem hj] at e
    rw [← Option.some.inj e]
    have := (k.ok _ (List.getElem_mem hj)).e1
    show c.2 < c.2 + _
    omega
theorem stp_more {p h : Nat} {os : List Od} {i : Nat} {st a : Nat × Nat} (ok : NetOk p h os) (ha : stp p os i st = some a) : ∀ {k : Nat}, ∀ {b}, stp p os (i + (k + 1)) st = some b → a.2 < b.2
  | 0, b, hb => by
    have e : (stp p os i st).bind (hop p os) = some b := hb
    rw [ha] at e
    exact hop_more ok e
  | k + 1, b, hb => by
    have e : (stp p os (i + (k + 1)) st).bind (hop p os) = some b := hb
    cases q : stp p os (i + (k + 1)) st with
    | none =>
      rw [q] at e
      cases e
    | some c =>
      rw [q] at e
      have h1 := stp_more ok ha (k := k) q
      have h2 := hop_more ok e
      omega
/-- the letter's last stop up to the day x: it is c, the j-th -/
def LastAt (p : Nat) (os : List Od) (st : Nat × Nat) (x : Nat) (c : Nat × Nat) (j : Nat) : Prop :=
  stp p os j st = some c ∧ c.2 ≤ x ∧ ∀ s, hop p os c = some s → x < s.2
theorem LastAt.uniq {p h : Nat} {os : List Od} {st c c' : Nat × Nat} {x j j' : Nat} (ok : NetOk p h os) (a : LastAt p os st x c j) (b : LastAt p os st x c' j') : c = c' ∧ j = j' := by
  obtain ⟨a1, a2, a3⟩ := a
  obtain ⟨b1, b2, b3⟩ := b
  have key : ∀ {c c' : Nat × Nat} {j j' : Nat}, stp p os j st = some c → (∀ s, hop p os c = some s → x < s.2) → stp p os j' st = some c' → c'.2 ≤ x → j < j' → False := by
    intro c c' j j' h1 h2 h3 h4 lt
    obtain ⟨k, rfl⟩ : ∃ k, j' = (j + 1) + k := ⟨j' - (j + 1), by omega⟩
    have e0 : stp p os (j + 1) st = hop p os c := by
      show (stp p os j st).bind (hop p os) = _
      rw [h1]
      rfl
    cases q : hop p os c with
    | none =>
      rw [stp_add, e0, q] at h3
      cases h3
    | some s =>
      have h5 := h2 s q
      cases k with
      | zero =>
        rw [Nat.add_zero, e0, q] at h3
        rw [← Option.some.inj h3] at h4
        omega
      | succ k =>
        have h6 := stp_more ok (e0.trans q) h3
        omega
  by_cases e : j = j'
  · subst e
    exact ⟨Option.some.inj (a1.symm.trans b1), rfl⟩
  · rcases Nat.lt_or_gt_of_ne e with lt | lt
    · exact (key a1 a3 b1 b2 lt).elim
    · exact (key b1 b3 a1 a2 lt).elim
/-- later by D days, a multiple of the period -/
def shf (D : Nat) (s : Nat × Nat) : Nat × Nat := (s.1, s.2 + D)
theorem hop_shf {p : Nat} {os : List Od} {k : Nat} (s : Nat × Nat) : hop p os (shf (p * k) s) = (hop p os s).map (shf (p * k)) := by
  unfold hop shf
  show (match idx p os s.1 ((s.2 + p * k : Nat) : Int) with | none => none | some j => (os[j]?).map fun o : Od => (o.t, s.2 + p * k + o.e)) = _
  rw [idx_later]
  cases idx p os s.1 (s.2 : Int) with
  | none => rfl
  | some j =>
    show (os[j]?).map _ = ((os[j]?).map _).map _
    rw [Option.map_map]
    congr 1
    funext o
    show (o.t, s.2 + p * k + o.e) = (o.t, s.2 + o.e + p * k)
    rw [show s.2 + p * k + o.e = s.2 + o.e + p * k by omega]
theorem stp_shf {p : Nat} {os : List Od} {k : Nat} (s : Nat × Nat) : ∀ j, stp p os j (shf (p * k) s) = (stp p os j s).map (shf (p * k))
  | 0 => rfl
  | j + 1 => by
    show (stp p os j (shf (p * k) s)).bind (hop p os) = ((stp p os j s).bind (hop p os)).map _
    rw [stp_shf s j]
    cases stp p os j s with
    | none => rfl
    | some c => exact hop_shf c
/-- round after round -/
theorem stp_round {p : Nat} {os : List Od} {b N D k0 : Nat} {st t : Nat × Nat} (hD : D = p * k0) (h1 : stp p os b st = some t) (h2 : stp p os (b + N) st = some (shf D t)) : ∀ (r i : Nat), stp p os (b + i + N * r) st = (stp p os (b + i) st).map (shf (D * r))
  | 0, i => by
    rw [Nat.mul_zero, Nat.mul_zero, Nat.add_zero]
    cases stp p os (b + i) st <;> rfl
  | r + 1, i => by
    have one : ∀ j, stp p os (b + N + j) st = (stp p os (b + j) st).map (shf D) := by
      intro j
      rw [stp_add, h2]
      show stp p os j (shf D t) = _
      rw [stp_add (i := b), h1, hD, stp_shf]
      rfl
    have e : b + i + N * (r + 1) = b + N + (i + N * r) := by
      rw [Nat.mul_add, Nat.mul_one]
      omega
    rw [e, one, show b + (i + N * r) = b + i + N * r by omega, stp_round hD h1 h2 r i, Option.map_map]
    congr 1
    funext s
    show (s.1, s.2 + D * r + D) = (s.1, s.2 + D * (r + 1))
    rw [Nat.mul_add, Nat.mul_one, Nat.add_assoc]
/-- what fol says -/
theorem fol_spec {p : Nat} : ∀ (r d : List (Nat × Nat)), (d.map (plc p)).Nodup →
    (fol p d r = (d ++ r, none) ∧ ((d ++ r).map (plc p)).Nodup) ∨ ∃ m s b t r', d ++ r = m ++ s :: r' ∧ fol p d r = (m ++ [s], some b) ∧ m[b]? = some t ∧ plc p t = plc p s ∧ (m.map (plc p)).Nodup
  | [], d, nd => .inl ⟨by rw [List.append_nil]; rfl, by rw [List.append_nil]; exact nd⟩
  | s :: r, d, nd => by
    unfold fol
    cases q : d.findIdx? (fun t => decide (plc p t = plc p s)) with
    | some b =>
      obtain ⟨hb, hb2, _⟩ := List.findIdx?_eq_some_iff_getElem.mp q
      exact .inr ⟨d, s, b, d[b], r, rfl, rfl, List.getElem?_eq_getElem hb, of_decide_eq_true hb2, nd⟩
    | none =>
      have nd2 : ((d ++ [s]).map (plc p)).Nodup := by
        rw [List.map_append, List.nodup_append]
        refine ⟨nd, by simp, fun x hx y hy => ?_⟩
        rw [List.map_cons, List.map_nil, List.mem_singleton] at hy
        rw [hy]
        intro e
        obtain ⟨t, ht, et⟩ := List.mem_map.mp hx
        have := List.findIdx?_eq_none_iff.mp q t ht
        exact Bool.false_ne_true (this.symm.trans (decide_eq_true (et.trans e)))
      have ih := fol_spec r (d ++ [s]) nd2
      rw [List.append_assoc] at ih
      exact ih
/-- a letter that is delivered, or chases: by its stops -/
theorem folR_cases {p h : Nat} {os : List Od} {st : Nat × Nat} (ok : NetOk p h os) (hh : st.1 < h) :
    (∃ l, folR p h os st = (l, none) ∧ l ≠ [] ∧ (∀ i, l[i]? = stp p os i st) ∧ (l.map (plc p)).Nodup) ∨
    (∃ m s b t k, folR p h os st = (m ++ [s], some b) ∧ (∀ i, i ≤ m.length → (m ++ [s])[i]? = stp p os i st) ∧ m[b]? = some t ∧ s = shf (p * k) t ∧ 0 < p * k ∧ (m.map (plc p)).Nodup) := by
  have hp : 0 < p := ok.p1
  have hlen := way_len p os (h * p + 1) st
  have hget : ∀ {i}, i < h * p + 1 → (way p os (h * p + 1) st)[i]? = stp p os i st := fun hi => way_get hi
  have hho := way_house (n := h * p + 1) ok hh
  have hne : way p os (h * p + 1) st ≠ [] := by
    rw [show way p os (h * p + 1) st = rest p os (h * p + 1) (some st) from rfl, rest_succ]
    exact List.cons_ne_nil _ _
  unfold folR
  generalize way p os (h * p + 1) st = L at hlen hget hho hne
  rcases fol_spec (p := p) L [] List.nodup_nil with ⟨e, nd⟩ | ⟨m, s, b, t, r', e1, e2, e3, e4, nd⟩
  · rw [List.nil_append] at e nd
    refine .inl ⟨L, e, hne, fun i => ?_, nd⟩
    have hb := places_bound hp hho nd
    by_cases c : i < h * p + 1
    · exact hget c
    · have e1 : stp p os L.length st = none := by
        rw [← hget (by omega)]
        exact List.getElem?_eq_none_iff.mpr (Nat.le_refl _)
      have e2 : i = L.length + (i - L.length) := by omega
      rw [e2, stp_add, e1]
      exact List.getElem?_eq_none_iff.mpr (by omega)
  · rw [List.nil_append] at e1
    have hml : m.length < L.length := by
      rw [e1, List.length_append, List.length_cons]
      omega
    have hg : ∀ i, i ≤ m.length → (m ++ [s])[i]? = stp p os i st := fun i hi => by
      rw [← hget (by omega), e1]
      by_cases c : i < m.length
      · rw [List.getElem?_append_left c, List.getElem?_append_left c]
      · obtain rfl : i = m.length := by omega
        rw [List.getElem?_append_right (Nat.le_refl _), List.getElem?_append_right (Nat.le_refl _), Nat.sub_self]
        rfl
    have hbl : b < m.length := (List.getElem?_eq_some_iff.mp e3).1
    have g1 : stp p os b st = some t := by
      rw [← hg b (by omega), List.getElem?_append_left hbl]
      exact e3
    have g2 : stp p os (b + (m.length - b - 1 + 1)) st = some s := by
      rw [show b + (m.length - b - 1 + 1) = m.length by omega, ← hg _ (Nat.le_refl _), List.getElem?_append_right (Nat.le_refl _), Nat.sub_self]
      rfl
    have lt := stp_more (b := s) ok g1 g2
    have h1 : t.1 = s.1 := (Prod.mk.inj e4).1
    have h2 : t.2 % p = s.2 % p := (Prod.mk.inj e4).2
    have hk : s.2 = t.2 + p * (s.2 / p - t.2 / p) := by
      have a1 := Nat.div_add_mod s.2 p
      have a2 := Nat.div_add_mod t.2 p
      have a3 : t.2 / p ≤ s.2 / p := Nat.div_le_div_right (Nat.le_of_lt lt)
      rw [Nat.mul_sub]
      have a4 : p * (t.2 / p) ≤ p * (s.2 / p) := Nat.mul_le_mul_left _ a3
      omega
    refine .inr ⟨m, s, b, t, s.2 / p - t.2 / p, e2, hg, e3, ?_, by omega, nd⟩
    exact Prod.ext h1.symm hk
/-- of an increasing list, those up to a day are its beginning -/
theorem upto {sk x : Nat} : ∀ {l : List (Nat × Nat)}, l.Pairwise (fun a b => a.2 < b.2) → l.filter (fun s => decide (s.2 + sk ≤ x)) = l.take (l.filter fun s => decide (s.2 + sk ≤ x)).length ∧ ∀ s ∈ l.drop (l.filter fun s => decide (s.2 + sk ≤ x)).length, x < s.2 + sk
  | [], _ => ⟨rfl, fun s h => by cases h⟩
  | s :: r, hp => by
    rw [List.pairwise_cons] at hp
    obtain ⟨h1, h2⟩ := upto (sk := sk) (x := x) hp.2
    by_cases c : s.2 + sk ≤ x
    · have e : (s :: r).filter (fun s => decide (s.2 + sk ≤ x)) = s :: r.filter (fun s => decide (s.2 + sk ≤ x)) := List.filter_cons_of_pos (p := fun s : Nat × Nat => decide (s.2 + sk ≤ x)) (decide_eq_true c)
      rw [e, List.length_cons, List.take_succ_cons, List.drop_succ_cons]
      refine ⟨?_, h2⟩
      rw [← h1]
    · have hn : ∀ t ∈ s :: r, x < t.2 + sk := fun t ht => by
        rcases List.mem_cons.mp ht with e | e
        · rw [e]; omega
        · have := hp.1 t e
          omega
      have e0 : (s :: r).filter (fun s => decide (s.2 + sk ≤ x)) = [] := List.filter_eq_nil_iff.mpr fun t ht z => by
        have := hn t ht
        have := of_decide_eq_true z
        omega
      rw [e0]
      exact ⟨rfl, fun t ht => hn t ht⟩
theorem stp_pair {p h : Nat} {os : List Od} {st : Nat × Nat} {l : List (Nat × Nat)} (ok : NetOk p h os) (hl : ∀ i, i < l.length → l[i]? = stp p os i st) : l.Pairwise fun a b => a.2 < b.2 := by
  rw [List.pairwise_iff_getElem]
  intro i j hi hj lt
  have e1 := hl i hi
  have e2 := hl j hj
  rw [List.getElem?_eq_getElem hi] at e1
  rw [List.getElem?_eq_getElem hj] at e2
  obtain ⟨k, rfl⟩ : ∃ k, j = i + (k + 1) := ⟨j - i - 1, by omega⟩
  exact stp_more (b := l[i + (k + 1)]) ok e1.symm e2.symm
def cnt (l : List (Nat × Nat)) (x : Nat) : Nat := (l.filter fun s => decide (s.2 ≤ x)).length
/-- days and hops that a chasing letter has behind it in whole rounds, up to the day x -/
def skips (res : List (Nat × Nat) × Option Nat) (x : Nat) : Nat × Nat := match res.2 with
  | none => (0, 0)
  | some b => match res.1[b]?, res.1.getLast? with
    | some t, some s => if t.2 ≤ x then ((x - t.2) / (s.2 - t.2) * (s.2 - t.2), (x - t.2) / (s.2 - t.2) * (res.1.length - 1 - b)) else (0, 0)
    | _, _ => (0, 0)
def cntS (l : List (Nat × Nat)) (sk x : Nat) : Nat := (l.filter fun s => decide (s.2 + sk ≤ x)).length
theorem cntS_spec {p h : Nat} {os : List Od} {st : Nat × Nat} {l : List (Nat × Nat)} {sk x : Nat} (ok : NetOk p h os) (hl : ∀ i, i < l.length → l[i]? = stp p os i st) :
    cntS l sk x ≤ l.length ∧ (∀ i s, i < cntS l sk x → l[i]? = some s → s.2 + sk ≤ x) ∧ ∀ i s, cntS l sk x ≤ i → l[i]? = some s → x < s.2 + sk := by
  obtain ⟨h1, h2⟩ := upto (sk := sk) (x := x) (stp_pair ok hl)
  have hc : cntS l sk x ≤ l.length := List.length_filter_le _ _
  refine ⟨hc, fun i s hi e => ?_, fun i s hi e => ?_⟩
  · have m : s ∈ l.filter fun s => decide (s.2 + sk ≤ x) := by
      rw [h1]
      refine List.mem_of_getElem? (i := i) ?_
      show (l.take (cntS l sk x))[i]? = some s
      rw [List.getElem?_take_of_lt hi]
      exact e
    exact of_decide_eq_true (List.mem_filter.mp m).2
  · refine h2 s (List.mem_of_getElem? (i := i - cntS l sk x) ?_)
    show (l.drop (cntS l sk x))[i - cntS l sk x]? = some s
    rw [List.getElem?_drop, show cntS l sk x + (i - cntS l sk x) = i by omega]
    exact e
/-- the last stop, as it is computed from what follow says -/
theorem last_of {p h : Nat} {os : List Od} {st : Nat × Nat} {x : Nat} (ok : NetOk p h os) (hh : st.1 < h) (hx : st.2 ≤ x) :
    ∃ c s, cntS (folR p h os st).1 (skips (folR p h os st) x).1 x = c + 1 ∧ (folR p h os st).1[c]? = some s ∧ LastAt p os st x (shf (skips (folR p h os st) x).1 s) (c + (skips (folR p h os st) x).2) ∧
      ((folR p h os st).2.isSome = true → c + 1 < (folR p h os st).1.length) := by
  rcases folR_cases ok hh with ⟨l, e, hne, hl, _⟩ | ⟨m, s, b, t, k, e, hl, hb, hs, hk, _⟩
  · rw [e]
    show ∃ c s, cntS l 0 x = c + 1 ∧ l[c]? = some s ∧ LastAt p os st x (shf 0 s) (c + 0) ∧ (Option.isSome (none : Option Nat) = true → c + 1 < l.length)
    obtain ⟨c1, c2, c3⟩ := cntS_spec (sk := 0) (x := x) ok fun i _ => hl i
    have h0 : l[0]? = some st := hl 0
    have pos : 0 < cntS l 0 x := by
      refine Nat.pos_of_ne_zero fun z => ?_
      have := c3 0 st (by omega) h0
      omega
    obtain ⟨c, hc⟩ : ∃ c, cntS l 0 x = c + 1 := ⟨cntS l 0 x - 1, by omega⟩
    have hcl : c < l.length := by omega
    have hc' := List.getElem?_eq_getElem hcl
    refine ⟨c, l[c], hc, hc', ⟨?_, c2 c _ (by omega) hc', fun s hs => ?_⟩, fun z => by cases z⟩
    · rw [Nat.add_zero, ← hl c]
      exact hc'
    · have e1 : l[c + 1]? = some s := by
        rw [hl (c + 1)]
        show (stp p os c st).bind (hop p os) = _
        rw [← hl c, hc']
        exact hs
      have := c3 (c + 1) s (by omega) e1
      omega
  · rw [e]
    have hbl : b < m.length := (List.getElem?_eq_some_iff.mp hb).1
    have hl' : ∀ i, i < (m ++ [s]).length → (m ++ [s])[i]? = stp p os i st := fun i hi => hl i (by rw [List.length_append, List.length_singleton] at hi; omega)
    have g1 : (m ++ [s])[b]? = some t := by rw [List.getElem?_append_left hbl]; exact hb
    have g2 : (m ++ [s])[m.length]? = some s := by
      rw [List.getElem?_append_right (Nat.le_refl _), Nat.sub_self]
      rfl
    have w1 : stp p os b st = some t := by rw [← hl b (by omega)]; exact g1
    have w2 : stp p os (b + (m.length - b)) st = some (shf (p * k) t) := by
      rw [show b + (m.length - b) = m.length by omega, ← hl _ (Nat.le_refl _), ← hs]
      exact g2
    have hD : s.2 - t.2 = p * k := by
      rw [hs]
      show t.2 + p * k - t.2 = _
      omega
    have esk : skips (m ++ [s], some b) x = if t.2 ≤ x then ((x - t.2) / (p * k) * (p * k), (x - t.2) / (p * k) * (m.length - b)) else (0, 0) := by
      unfold skips
      simp only [g1, List.getLast?_concat, hD]
      rw [List.length_append, List.length_singleton, Nat.add_sub_cancel]
    rw [esk]
    by_cases c : t.2 ≤ x
    · rw [if_pos c]
      generalize hr : (x - t.2) / (p * k) = r
      have q1 := Nat.div_add_mod (x - t.2) (p * k)
      have q2 := Nat.mod_lt (x - t.2) hk
      rw [hr] at q1
      have q3 : p * k * r = r * (p * k) := Nat.mul_comm _ _
      show ∃ c z, cntS (m ++ [s]) (r * (p * k)) x = c + 1 ∧ (m ++ [s])[c]? = some z ∧ LastAt p os st x (shf (r * (p * k)) z) (c + r * (m.length - b)) ∧ (Option.isSome (some b) = true → c + 1 < (m ++ [s]).length)
      obtain ⟨c1, c2, c3⟩ := cntS_spec (sk := r * (p * k)) (x := x) ok hl'
      have lo : b < cntS (m ++ [s]) (r * (p * k)) x := by
        refine Nat.lt_of_not_le fun z => ?_
        have := c3 b t z g1
        omega
      have hi : cntS (m ++ [s]) (r * (p * k)) x ≤ m.length := by
        refine Nat.le_of_not_lt fun z => ?_
        have := c2 m.length s z g2
        have e0 : s.2 = t.2 + p * k := by rw [hs]; rfl
        omega
      obtain ⟨c, hc⟩ : ∃ c, cntS (m ++ [s]) (r * (p * k)) x = c + 1 := ⟨cntS (m ++ [s]) (r * (p * k)) x - 1, by omega⟩
      have hcl : c < (m ++ [s]).length := by rw [List.length_append, List.length_singleton]; omega
      have hc' := List.getElem?_eq_getElem hcl
      have round := stp_round (D := p * k) (k0 := k) rfl w1 w2 r
      have sc : stp p os (c + r * (m.length - b)) st = some (shf (r * (p * k)) ((m ++ [s])[c])) := by
        have e1 := round (c - b)
        rw [show b + (c - b) = c by omega, Nat.mul_comm (m.length - b) r, ← hl c (by omega), hc', Nat.mul_comm (p * k) r] at e1
        exact e1
      refine ⟨c, (m ++ [s])[c], hc, hc', ⟨sc, c2 c _ (by omega) hc', fun z hz => ?_⟩, fun _ => by rw [List.length_append, List.length_singleton]; omega⟩
      have hcl2 : c + 1 < (m ++ [s]).length := by rw [List.length_append, List.length_singleton]; omega
      have hc2' := List.getElem?_eq_getElem hcl2
      have e2 := round (c + 1 - b)
      rw [show b + (c + 1 - b) = c + 1 by omega, Nat.mul_comm (m.length - b) r, ← hl (c + 1) (by omega), hc2', Nat.mul_comm (p * k) r] at e2
      have e3 : stp p os (c + 1 + r * (m.length - b)) st = some z := by
        rw [show c + 1 + r * (m.length - b) = (c + r * (m.length - b)) + 1 by omega]
        show (stp p os (c + r * (m.length - b)) st).bind (hop p os) = _
        rw [sc]
        exact hz
      rw [e3] at e2
      rw [Option.some.inj e2]
      exact c3 (c + 1) _ (by omega) hc2'
    · rw [if_neg c]
      show ∃ c z, cntS (m ++ [s]) 0 x = c + 1 ∧ (m ++ [s])[c]? = some z ∧ LastAt p os st x (shf 0 z) (c + 0) ∧ (Option.isSome (some b) = true → c + 1 < (m ++ [s]).length)
      obtain ⟨c1, c2, c3⟩ := cntS_spec (sk := 0) (x := x) ok hl'
      have h0 : (m ++ [s])[0]? = some st := hl 0 (Nat.zero_le _)
      have pos : 0 < cntS (m ++ [s]) 0 x := by
        refine Nat.pos_of_ne_zero fun z => ?_
        have := c3 0 st (by omega) h0
        omega
      have hi : cntS (m ++ [s]) 0 x ≤ b := by
        refine Nat.le_of_not_lt fun z => ?_
        have := c2 b t z g1
        omega
      obtain ⟨c, hc⟩ : ∃ c, cntS (m ++ [s]) 0 x = c + 1 := ⟨cntS (m ++ [s]) 0 x - 1, by omega⟩
      have hcl : c < (m ++ [s]).length := by rw [List.length_append, List.length_singleton]; omega
      have hc' := List.getElem?_eq_getElem hcl
      have sc : stp p os c st = some ((m ++ [s])[c]) := by
        rw [← hl c (by omega)]
        exact hc'
      refine ⟨c, (m ++ [s])[c], hc, hc', ⟨sc, c2 c _ (by omega) hc', fun z hz => ?_⟩, fun _ => by rw [List.length_append, List.length_singleton]; omega⟩
      have e3 : (m ++ [s])[c + 1]? = some z := by
        rw [hl (c + 1) (by omega)]
        show (stp p os c st).bind (hop p os) = _
        rw [sc]
        exact hz
      have := c3 (c + 1) z (by omega) e3
      omega
/-! ### stops as data -/
theorem fol_first {p : Nat} {s : Nat × Nat} {r : List (Nat × Nat)} : fol p [] (s :: r) = fol p [s] r := by simp [fol]
def plD (s : Nat × Nat) : PyData := .tuple [.int s.1, .int s.2]
theorem plD_shaped (s : Nat × Nat) : PySem.SeqAt.shaped (plD s) = true := by
  show ((plD s).canLay0 && decide ((plD s).depth ≤ 64)) = true
  rw [Bool.and_eq_true]
  refine ⟨by simp [plD, PyData.canLay0, PyData.canLayAll0], decide_eq_true ?_⟩
  have e : (plD s).depth = 1 := by simp [plD, PyData.depth, PyData.depthAll]
  omega
theorem plDs_lay : ∀ l : List (Nat × Nat), PyData.canLayAll0 (l.map plD) = true
  | [] => by simp [PyData.canLayAll0]
  | s :: l => by
    have h : (plD s).canLay0 = true := by simp [plD, PyData.canLay0, PyData.canLayAll0]
    simp [PyData.canLayAll0, h, plDs_lay l]
theorem plDs_depth : ∀ l : List (Nat × Nat), PyData.depthAll (l.map plD) ≤ 1
  | [] => by simp [PyData.depthAll]
  | s :: l => by
    have h1 := plDs_depth l
    have h2 : (plD s).depth = 1 := by simp [plD, PyData.depth, PyData.depthAll]
    simp only [List.map_cons, PyData.depthAll]
    omega
theorem plDs_shaped (l : List (Nat × Nat)) : PySem.SeqAt.shaped (.list (l.map plD)) = true := by
  have h1 := plDs_depth l
  show (PyData.canLay0 (.list (l.map plD)) && decide (PyData.depth (.list (l.map plD)) ≤ 64)) = true
  rw [Bool.and_eq_true]
  refine ⟨by simp only [PyData.canLay0]; exact plDs_lay l, decide_eq_true ?_⟩
  simp only [PyData.depth]
  omega
theorem plD_eqv (s t : Nat × Nat) : PyData.eqv (plD s) (plD t) = decide (s = t) := by
  obtain ⟨a, b⟩ := s
  obtain ⟨c, d⟩ := t
  have e : PyData.eqv (plD (a, b)) (plD (c, d)) = (((a : Int) == (c : Int)) && (((b : Int) == (d : Int)) && true)) := by simp only [plD, PyData.eqv, PyData.eqvAll]
  rw [e]
  by_cases h : ((a, b) : Nat × Nat) = (c, d)
  · cases h
    simp
  · rw [decide_eq_false h]
    by_cases h1 : a = c
    · have h2 : ¬ (b : Int) = (d : Int) := fun z => h (by rw [h1, show b = d by omega])
      have e2 : ((b : Int) == (d : Int)) = false := beq_eq_false_iff_ne.mpr h2
      rw [e2, Bool.false_and, Bool.and_false]
    · have e2 : ((a : Int) == (c : Int)) = false := beq_eq_false_iff_ne.mpr (by omega)
      rw [e2, Bool.false_and]
theorem stop_dp {K : PySem.W.Frag} {H : Hp} {v : V} {s : Nat × Nat} (h : StopAt H v s) : Dp K H v (plD s) := by
  obtain ⟨u, rfl, hu⟩ := h
  exact .tup (SqT.of hu) (.cons (.int _) (.cons (.int _) .nil))
theorem stops_dp {K : PySem.W.Frag} {H : Hp} {vs : List V} {l : List (Nat × Nat)} (h : Paired (StopAt H) vs l) : DpAll K H vs (l.map plD) := by
  induction h with
  | nil => exact .nil
  | cons r _ ih => exact .cons (stop_dp r) ih
/-! ### days of a house: plain -/
/-- the three lists of day_sets: by the days below n -/
def arr (p h : Nat) (os : List Od) (hs n : Nat) : List Nat := (List.range n).filter fun d => (folR p h os (hs, d)).2.isNone
def chs (p h : Nat) (os : List Od) (hs n : Nat) : List Nat := (List.range n).filter fun d => (folR p h os (hs, d)).2.isSome
def ret (p h : Nat) (os : List Od) (hs n : Nat) : List Nat := (List.range n).filter fun d => ((folR p h os (hs, d)).1.drop 1).any fun s => decide (s.1 = hs)
theorem filter_nints {n : Nat} {f : Nat → Bool} (h : f n = true) : nints ((List.range (n + 1)).filter f) = nints ((List.range n).filter f) ++ [.int (n : Nat)] := by
  rw [filter_range_succ', if_pos h]
  unfold nints
  rw [List.map_append]
  rfl
theorem filter_nints' {n : Nat} {f : Nat → Bool} (h : f n = false) : nints ((List.range (n + 1)).filter f) = nints ((List.range n).filter f) := by
  rw [filter_range_succ', if_neg (by rw [h]; exact Bool.false_ne_true), List.append_nil]
theorem nints_small {n : Nat} {f : Nat → Bool} (h : n ≤ 30) : (nints ((List.range n).filter f)).length < sizeLine := by
  unfold nints
  rw [List.length_map]
  exact small1000 (Nat.le_trans (List.length_filter_le _ _) (by rw [List.length_range]; omega))
/-! ### equal data (nested lists and tuples of None, bools, ints, texts) -/
def Flat1 (v : V) : Prop := v = .non ∨ (∃ b, v = .bl b) ∨ (∃ i, v = .int i) ∨ ∃ s, v = .str s
def Eqv : Nat → Hp → V → V → Prop
  | 0, _, a, b => a = b ∧ Flat1 a
  | n + 1, H, a, b => (a = b ∧ Flat1 a) ∨ (∃ p q xs ys, a = .ref p ∧ b = .ref q ∧ H p = some (.tup xs) ∧ H q = some (.tup ys) ∧ xs.length ≤ 1000 ∧ Paired (Eqv n H) xs ys) ∨
      ∃ p q xs ys, a = .ref p ∧ b = .ref q ∧ H p = some (.lst xs) ∧ H q = some (.lst ys) ∧ xs.length ≤ 1000 ∧ Paired (Eqv n H) xs ys
theorem Eqv.flat {n : Nat} {H : Hp} {a b : V} (e : a = b) (f : Flat1 a) : Eqv n H a b := by
  cases n with
  | zero => exact ⟨e, f⟩
  | succ n => exact .inl ⟨e, f⟩
theorem Eqv.int {n : Nat} {H : Hp} {i : Int} : Eqv n H (.int i) (.int i) := Eqv.flat rfl (.inr (.inr (.inl ⟨i, rfl⟩)))
theorem Eqv.non {n : Nat} {H : Hp} : Eqv n H .non .non := Eqv.flat rfl (.inl rfl)
theorem Eqv.same : ∀ {n : Nat} {H H' : Hp} {a b : V}, Same H H' → Eqv n H a b → Eqv n H' a b
  | 0, _, _, _, _, _, h => h
  | n + 1, H, H', a, b, s, h => by
    rcases h with h | ⟨p, q, xs, ys, e1, e2, h1, h2, h3, h4⟩ | ⟨p, q, xs, ys, e1, e2, h1, h2, h3, h4⟩
    · exact .inl h
    · exact .inr (.inl ⟨p, q, xs, ys, e1, e2, s _ _ h1, s _ _ h2, h3, Paired.mapP h4 fun _ _ z => Eqv.same s z⟩)
    · exact .inr (.inr ⟨p, q, xs, ys, e1, e2, s _ _ h1, s _ _ h2, h3, Paired.mapP h4 fun _ _ z => Eqv.same s z⟩)
abbrev s_l_equal : Stmt := top 55
abbrev N_l_equal : List Str := ["_law_actual", "_law_expected", "_law_k"]
abbrev P_l_equal : List Str := ["_law_actual", "_law_expected"]
theorem sc_l_equal : FnScope N_l_equal P_l_equal (defScope s_l_equal) := ⟨rfl, rfl, rfl, by decide +kernel, rfl, by decide +kernel, by decide +kernel⟩
def spEqual (n : Nat) : Sp := fun vs H Q _ => ∃ (a b : V), vs = [a, b] ∧ Eqv n H a b ∧ ∀ H', Same H H' → Q (.bl true) H'
section
variable {P : Program} {w : World} {K : PySem.W.Frag} {mg : Str → Option Value} {base : Heap}
theorem bl_ne {x y : Bool} (e : x = y) : (!decide (V.bl x = V.bl y)) = false := by
  rw [decide_eq_true (by rw [e])]
  rfl
theorem ok_equal {f : Addr} {fd : FuncData} (F : Fun K "_law_equal" "_law_equal" s_l_equal f fd) (B : Blt mg) (gE : mg "_law_equal" = some (.ref f)) (bE : Binds K fd P_l_equal []) : ∀ n, FnOk P w K mg base CX0 (n + 1) f fd P_l_equal (spEqual n) := by
  intro n
  induction n with
  | zero =>
    refine F.ok sc_l_equal (fun vs H Q E h => ?_) (fun cdv A outer s H vs Q E hr h => ?_)
    · obtain ⟨a, b, rfl, _⟩ := h
      rfl
    · obtain ⟨a, b, rfl, ⟨rfl, hf⟩, q⟩ := h
      refine ⟨_, pss_cons (ps_if (pt_cmpR op_isN (pv 1) pe_non (nomark _)) (pss_one (ps_ret (pe_cmpR op_isN (pv 0) pe_non (nomark _)))) pss_nil)
        (pss_cons (ps_if (pt_val (pe_callB call_isi (by rfl) B.isi PyProof.Rows.boot_isinstance (pa_cons (pv 1) (pa_cons (pe_bltn (v := .ty "bool") (by rfl) B.bool (by decide +kernel) rfl) pa_nil))))
          (pss_one (ps_ret (pe_and (pe_callB call_isi (by rfl) B.isi PyProof.Rows.boot_isinstance (pa_cons (pv 0) (pa_cons (pe_bltn (v := .ty "bool") (by rfl) B.bool (by decide +kernel) rfl) pa_nil))) (pe_one (pe_cmpR op_eq (pv 0) (pv 1) (nomark _)))))) pss_nil)
        (pss_cons (ps_if (pt_val (pe_callB call_isi (by rfl) B.isi PyProof.Rows.boot_isinstance (pa_cons (pv 1) (pa_cons (pe_bltn (v := .ty "int") (by rfl) B.int (by decide +kernel) rfl) pa_nil))))
          (pss_one (ps_ret (pe_and (pe_callB call_isi (by rfl) B.isi PyProof.Rows.boot_isinstance (pa_cons (pv 0) (pa_cons (pe_bltn (v := .ty "int") (by rfl) B.int (by decide +kernel) rfl) pa_nil)))
            (pe_and (pe_not (pe_callB call_isi (by rfl) B.isi PyProof.Rows.boot_isinstance (pa_cons (pv 0) (pa_cons (pe_bltn (v := .ty "bool") (by rfl) B.bool (by decide +kernel) rfl) pa_nil)))) (pe_one (pe_cmpR op_eq (pv 0) (pv 1) (nomark _))))))) pss_nil)
        (pss_cons (ps_if (pt_val (pe_callB call_isi (by rfl) B.isi PyProof.Rows.boot_isinstance (pa_cons (pv 1) (pa_cons (pe_bltn (v := .ty "str") (by rfl) B.str (by decide +kernel) rfl) pa_nil))))
          (pss_one (ps_ret (pe_and (pe_callB call_isi (by rfl) B.isi PyProof.Rows.boot_isinstance (pa_cons (pv 0) (pa_cons (pe_bltn (v := .ty "str") (by rfl) B.str (by decide +kernel) rfl) pa_nil))) (pe_one (pe_cmpR op_eq (pv 0) (pv 1) (nomark _)))))) pss_nil)
        (pss_cons ps_never (pss_cons ps_never (pss_cons ps_never (pss_one ps_never))))))), ?_⟩
      rcases hf with rfl | ⟨y, rfl⟩ | ⟨y, rfl⟩ | ⟨y, rfl⟩
      · refine ⟨_, rfl, rfl, _, rfl, iteT ⟨_, rfl, rfl, ?_⟩⟩
        exact q H (.refl H)
      · refine ⟨_, rfl, rfl, _, rfl, iteF ⟨_, rfl, _, _, _, _, true, rfl, .ty "bool", .base (.bl y), kit_ty (by decide +kernel), _, rfl, iteT ?_⟩⟩
        refine ⟨_, rfl, _, _, _, _, true, rfl, .ty "bool", .base (.bl y), kit_ty (by decide +kernel), _, rfl, iteT ⟨_, rfl, _, rfl, by cases y <;> rfl, ?_⟩⟩
        rw [decide_eq_true rfl]
        exact q H (.refl H)
      · refine ⟨_, rfl, rfl, _, rfl, iteF ⟨_, rfl, _, _, _, _, false, rfl, .ty "bool", .base (.int y), kit_ty (by decide +kernel), _, rfl, iteF ?_⟩⟩
        refine ⟨_, rfl, _, _, _, _, true, rfl, .ty "int", .base (.int y), kit_ty (by decide +kernel), _, rfl, iteT ?_⟩
        refine ⟨_, rfl, _, _, _, _, true, rfl, .ty "int", .base (.int y), kit_ty (by decide +kernel), _, rfl, iteT ?_⟩
        refine ⟨_, rfl, _, _, _, _, false, rfl, .ty "bool", .base (.int y), kit_ty (by decide +kernel), _, rfl, _, rfl, iteT ⟨_, rfl, _, rfl, rfl, ?_⟩⟩
        rw [decide_eq_true rfl]
        exact q H (.refl H)
      · refine ⟨_, rfl, rfl, _, rfl, iteF ⟨_, rfl, _, _, _, _, false, rfl, .ty "bool", .base (.str y), kit_ty (by decide +kernel), _, rfl, iteF ?_⟩⟩
        refine ⟨_, rfl, _, _, _, _, false, rfl, .ty "int", .base (.str y), kit_ty (by decide +kernel), _, rfl, iteF ?_⟩
        refine ⟨_, rfl, _, _, _, _, true, rfl, .ty "str", .base (.str y), kit_ty (by decide +kernel), _, rfl, iteT ?_⟩
        refine ⟨_, rfl, _, _, _, _, true, rfl, .ty "str", .base (.str y), kit_ty (by decide +kernel), _, rfl, iteT ⟨_, rfl, _, rfl, rfl, ?_⟩⟩
        rw [decide_eq_true rfl]
        exact q H (.refl H)
  | succ n ih =>
    refine F.ok sc_l_equal (fun vs H Q E h => ?_) (fun cdv A outer s H vs Q E hr h => ?_)
    · obtain ⟨a, b, rfl, _⟩ := h
      rfl
    · obtain ⟨a, b, rfl, he, q⟩ := h
      refine ⟨_, pss_cons (ps_if (pt_cmpR op_isN (pv 1) pe_non (nomark _)) (pss_one (ps_ret (pe_cmpR op_isN (pv 0) pe_non (nomark _)))) pss_nil)
        (pss_cons (ps_if (pt_val (pe_callB call_isi (by rfl) B.isi PyProof.Rows.boot_isinstance (pa_cons (pv 1) (pa_cons (pe_bltn (v := .ty "bool") (by rfl) B.bool (by decide +kernel) rfl) pa_nil))))
          (pss_one (ps_ret (pe_and (pe_callB call_isi (by rfl) B.isi PyProof.Rows.boot_isinstance (pa_cons (pv 0) (pa_cons (pe_bltn (v := .ty "bool") (by rfl) B.bool (by decide +kernel) rfl) pa_nil))) (pe_one (pe_cmpR op_eq (pv 0) (pv 1) (nomark _)))))) pss_nil)
        (pss_cons (ps_if (pt_val (pe_callB call_isi (by rfl) B.isi PyProof.Rows.boot_isinstance (pa_cons (pv 1) (pa_cons (pe_bltn (v := .ty "int") (by rfl) B.int (by decide +kernel) rfl) pa_nil))))
          (pss_one (ps_ret (pe_and (pe_callB call_isi (by rfl) B.isi PyProof.Rows.boot_isinstance (pa_cons (pv 0) (pa_cons (pe_bltn (v := .ty "int") (by rfl) B.int (by decide +kernel) rfl) pa_nil)))
            (pe_and (pe_not (pe_callB call_isi (by rfl) B.isi PyProof.Rows.boot_isinstance (pa_cons (pv 0) (pa_cons (pe_bltn (v := .ty "bool") (by rfl) B.bool (by decide +kernel) rfl) pa_nil)))) (pe_one (pe_cmpR op_eq (pv 0) (pv 1) (nomark _))))))) pss_nil)
        (pss_cons (ps_if (pt_val (pe_callB call_isi (by rfl) B.isi PyProof.Rows.boot_isinstance (pa_cons (pv 1) (pa_cons (pe_bltn (v := .ty "str") (by rfl) B.str (by decide +kernel) rfl) pa_nil))))
          (pss_one (ps_ret (pe_and (pe_callB call_isi (by rfl) B.isi PyProof.Rows.boot_isinstance (pa_cons (pv 0) (pa_cons (pe_bltn (v := .ty "str") (by rfl) B.str (by decide +kernel) rfl) pa_nil))) (pe_one (pe_cmpR op_eq (pv 0) (pv 1) (nomark _)))))) pss_nil)
        (pss_cons (ps_if (pt_cmpR op_ne (pe_callB call_isi (by rfl) B.isi PyProof.Rows.boot_isinstance (pa_cons (pv 1) (pa_cons (pe_bltn (v := .ty "tuple") (by rfl) B.tuple (by decide +kernel) rfl) pa_nil)))
            (pe_callB call_isi (by rfl) B.isi PyProof.Rows.boot_isinstance (pa_cons (pv 0) (pa_cons (pe_bltn (v := .ty "tuple") (by rfl) B.tuple (by decide +kernel) rfl) pa_nil))) (nomark _)) (pss_one (ps_ret pe_bl)) pss_nil)
        (pss_cons (ps_if (pt_cmpR op_ne (pe_callB call_isi (by rfl) B.isi PyProof.Rows.boot_isinstance (pa_cons (pv 1) (pa_cons (pe_bltn (v := .ty "list") (by rfl) B.list (by decide +kernel) rfl) pa_nil)))
            (pe_callB call_isi (by rfl) B.isi PyProof.Rows.boot_isinstance (pa_cons (pv 0) (pa_cons (pe_bltn (v := .ty "list") (by rfl) B.list (by decide +kernel) rfl) pa_nil))) (nomark _)) (pss_one (ps_ret pe_bl)) pss_nil)
        (pss_cons (ps_if (pt_cmpR op_ne (pe_callB call_len_seq (by rfl) B.len PySem.boot_len (pa_cons (pv 0) pa_nil)) (pe_callB call_len_seq (by rfl) B.len PySem.boot_len (pa_cons (pv 1) pa_nil)) (nomark _)) (pss_one (ps_ret pe_bl)) pss_nil)
        (pss_one (ps_ret (pe_callB (cr_all rfl) (by rfl) B.all PyProof.Rows.boot_all (pa_cons (pe_lc (own := [("_law_k", 2)]) (g := gName 2) (tt := tYes) (by rfl) sc_l_equal.nd
            (pi_range1 rfl B.range (pa_cons (pe_callB call_len_seq (by rfl) B.len PySem.boot_len (pa_cons (pv 1) pa_nil)) pa_nil)) (blkOk_by (N := N_l_equal) (sc := defScope s_l_equal) (by decide +kernel))
            (fun _ _ _ _ _ => pg_name (i := 2) sc_l_equal.nd rfl (.inl rfl)) (fun _ _ _ _ _ => pts_nil)
            (te := tCall (spEqual n) [] E0 (tCons (tOp (rIx K) (tVar 0) (tVar 2)) (tCons (tOp (rIx K) (tVar 1) (tVar 2)) tNil)))
            (fun _ _ _ _ _ => pe_call ih hr (by rfl) gE F.kp bE .nil pass0 (pa_cons (pe_ix ix_seq (pv 0) (pv 2) (fun _ _ => rfl)) (pa_cons (pe_ix ix_seq (pv 1) (pv 2) (fun _ _ => rfl)) pa_nil)))) pa_nil)))))))))), ?_⟩
      rcases he with ⟨rfl, hf⟩ | ⟨p1, p2, xs, ys, rfl, rfl, h1, h2, hl, hP⟩ | ⟨p1, p2, xs, ys, rfl, rfl, h1, h2, hl, hP⟩
      · rcases hf with rfl | ⟨y, rfl⟩ | ⟨y, rfl⟩ | ⟨y, rfl⟩
        · refine ⟨_, rfl, rfl, _, rfl, iteT ⟨_, rfl, rfl, ?_⟩⟩
          exact q H (.refl H)
        · refine ⟨_, rfl, rfl, _, rfl, iteF ⟨_, rfl, _, _, _, _, true, rfl, .ty "bool", .base (.bl y), kit_ty (by decide +kernel), _, rfl, iteT ?_⟩⟩
          refine ⟨_, rfl, _, _, _, _, true, rfl, .ty "bool", .base (.bl y), kit_ty (by decide +kernel), _, rfl, iteT ⟨_, rfl, _, rfl, by cases y <;> rfl, ?_⟩⟩
          rw [decide_eq_true rfl]
          exact q H (.refl H)
        · refine ⟨_, rfl, rfl, _, rfl, iteF ⟨_, rfl, _, _, _, _, false, rfl, .ty "bool", .base (.int y), kit_ty (by decide +kernel), _, rfl, iteF ?_⟩⟩
          refine ⟨_, rfl, _, _, _, _, true, rfl, .ty "int", .base (.int y), kit_ty (by decide +kernel), _, rfl, iteT ?_⟩
          refine ⟨_, rfl, _, _, _, _, true, rfl, .ty "int", .base (.int y), kit_ty (by decide +kernel), _, rfl, iteT ?_⟩
          refine ⟨_, rfl, _, _, _, _, false, rfl, .ty "bool", .base (.int y), kit_ty (by decide +kernel), _, rfl, _, rfl, iteT ⟨_, rfl, _, rfl, rfl, ?_⟩⟩
          rw [decide_eq_true rfl]
          exact q H (.refl H)
        · refine ⟨_, rfl, rfl, _, rfl, iteF ⟨_, rfl, _, _, _, _, false, rfl, .ty "bool", .base (.str y), kit_ty (by decide +kernel), _, rfl, iteF ?_⟩⟩
          refine ⟨_, rfl, _, _, _, _, false, rfl, .ty "int", .base (.str y), kit_ty (by decide +kernel), _, rfl, iteF ?_⟩
          refine ⟨_, rfl, _, _, _, _, true, rfl, .ty "str", .base (.str y), kit_ty (by decide +kernel), _, rfl, iteT ?_⟩
          refine ⟨_, rfl, _, _, _, _, true, rfl, .ty "str", .base (.str y), kit_ty (by decide +kernel), _, rfl, iteT ⟨_, rfl, _, rfl, rfl, ?_⟩⟩
          rw [decide_eq_true rfl]
          exact q H (.refl H)
      · have el := hP.length
        refine ⟨_, rfl, rfl, _, rfl, iteF ⟨_, rfl, _, _, _, _, false, rfl, .ty "bool", .base (.tup h2), kit_ty (by decide +kernel), _, rfl, iteF ?_⟩⟩
        refine ⟨_, rfl, _, _, _, _, false, rfl, .ty "int", .base (.tup h2), kit_ty (by decide +kernel), _, rfl, iteF ?_⟩
        refine ⟨_, rfl, _, _, _, _, false, rfl, .ty "str", .base (.tup h2), kit_ty (by decide +kernel), _, rfl, iteF ?_⟩
        refine ⟨_, rfl, _, _, _, _, true, rfl, .ty "tuple", .base (.tup h2), kit_ty (by decide +kernel), _, rfl, _, _, _, _, true, rfl, .ty "tuple", .base (.tup h1), kit_ty (by decide +kernel), rfl, _, rfl, ?_⟩
        rw [bl_ne rfl]
        refine iteF ⟨_, rfl, _, _, _, _, false, rfl, .ty "list", .base (.tup h2), kit_ty (by decide +kernel), _, rfl, _, _, _, _, false, rfl, .ty "list", .base (.tup h1), kit_ty (by decide +kernel), rfl, _, rfl, ?_⟩
        rw [bl_ne rfl]
        refine iteF ⟨_, rfl, p1, xs, rfl, .inr (SqT.of h1), _, rfl, p2, ys, rfl, .inr (SqT.of h2), rfl, _, rfl, ?_⟩
        rw [show (!decide (V.int (xs.length : Int) = V.int (ys.length : Int))) = false by rw [el, decide_eq_true rfl]; rfl]
        refine iteF ⟨_, rfl, p2, ys, rfl, .inr (SqT.of h2), ys.length, rfl, by omega, by omega, fun D nD => ?_⟩
        refine lc_range (lo := 0) (n := (ys.length : Int).toNat) (fun i H' => Same H H' ∧ H' D = some (.lst ((List.replicate i true).map V.bl))) ⟨same_upd nD, upd_same⟩ ?_ ?_
        · rintro i H' hi ⟨s1, hD⟩
          have hi2 : i < ys.length := by omega
          obtain ⟨x, hx, hxy⟩ := Paired.get? (i := i) hP (List.getElem?_eq_getElem hi2)
          refine ⟨rfl, _, rfl, _, rfl, .inr (.inl ⟨p1, xs, ((i : Nat) : Int), x, rfl, by show V.int (0 + (i : Int)) = _; rw [Int.zero_add], SqT.of (s1 _ _ h1), atI_nat hx, ?_⟩)⟩
          refine ⟨_, rfl, _, rfl, .inr (.inl ⟨p2, ys, ((i : Nat) : Int), _, rfl, by show V.int (0 + (i : Int)) = _; rw [Int.zero_add], SqT.of (s1 _ _ h2), atI_nat (List.getElem?_eq_getElem hi2), ?_⟩)⟩
          refine ⟨x, _, rfl, hxy.same s1, fun H2 s2 => ?_⟩
          refine ⟨_, s2 _ _ hD, ?_, same_updN (s1.trans s2) nD, ?_⟩
          · rw [List.length_map, List.length_replicate]
            exact small1000 (by omega)
          · rw [upd_same, List.replicate_succ', List.map_append]
            rfl
        · rintro H' ⟨s1, hD⟩
          refine ⟨D, _, rfl, SqL.of hD, ?_⟩
          rw [show (List.replicate (ys.length : Int).toNat true).all id = true by simp]
          exact q _ s1
      · have el := hP.length
        refine ⟨_, rfl, rfl, _, rfl, iteF ⟨_, rfl, _, _, _, _, false, rfl, .ty "bool", .base (.lst h2), kit_ty (by decide +kernel), _, rfl, iteF ?_⟩⟩
        refine ⟨_, rfl, _, _, _, _, false, rfl, .ty "int", .base (.lst h2), kit_ty (by decide +kernel), _, rfl, iteF ?_⟩
        refine ⟨_, rfl, _, _, _, _, false, rfl, .ty "str", .base (.lst h2), kit_ty (by decide +kernel), _, rfl, iteF ?_⟩
        refine ⟨_, rfl, _, _, _, _, false, rfl, .ty "tuple", .base (.lst h2), kit_ty (by decide +kernel), _, rfl, _, _, _, _, false, rfl, .ty "tuple", .base (.lst h1), kit_ty (by decide +kernel), rfl, _, rfl, ?_⟩
        rw [bl_ne rfl]
        refine iteF ⟨_, rfl, _, _, _, _, true, rfl, .ty "list", .base (.lst h2), kit_ty (by decide +kernel), _, rfl, _, _, _, _, true, rfl, .ty "list", .base (.lst h1), kit_ty (by decide +kernel), rfl, _, rfl, ?_⟩
        rw [bl_ne rfl]
        refine iteF ⟨_, rfl, p1, xs, rfl, .inl (SqL.of h1), _, rfl, p2, ys, rfl, .inl (SqL.of h2), rfl, _, rfl, ?_⟩
        rw [show (!decide (V.int (xs.length : Int) = V.int (ys.length : Int))) = false by rw [el, decide_eq_true rfl]; rfl]
        refine iteF ⟨_, rfl, p2, ys, rfl, .inl (SqL.of h2), ys.length, rfl, by omega, by omega, fun D nD => ?_⟩
        refine lc_range (lo := 0) (n := (ys.length : Int).toNat) (fun i H' => Same H H' ∧ H' D = some (.lst ((List.replicate i true).map V.bl))) ⟨same_upd nD, upd_same⟩ ?_ ?_
        · rintro i H' hi ⟨s1, hD⟩
          have hi2 : i < ys.length := by omega
          obtain ⟨x, hx, hxy⟩ := Paired.get? (i := i) hP (List.getElem?_eq_getElem hi2)
          refine ⟨rfl, _, rfl, _, rfl, .inl ⟨p1, xs, ((i : Nat) : Int), x, rfl, by show V.int (0 + (i : Int)) = _; rw [Int.zero_add], SqL.of (s1 _ _ h1), atI_nat hx, ?_⟩⟩
          refine ⟨_, rfl, _, rfl, .inl ⟨p2, ys, ((i : Nat) : Int), _, rfl, by show V.int (0 + (i : Int)) = _; rw [Int.zero_add], SqL.of (s1 _ _ h2), atI_nat (List.getElem?_eq_getElem hi2), ?_⟩⟩
          refine ⟨x, _, rfl, hxy.same s1, fun H2 s2 => ?_⟩
          refine ⟨_, s2 _ _ hD, ?_, same_updN (s1.trans s2) nD, ?_⟩
          · rw [List.length_map, List.length_replicate]
            exact small1000 (by omega)
          · rw [upd_same, List.replicate_succ', List.map_append]
            rfl
        · rintro H' ⟨s1, hD⟩
          refine ⟨D, _, rfl, SqL.of hD, ?_⟩
          rw [show (List.replicate (ys.length : Int).toNat true).all id = true by simp]
          exact q _ s1
end
theorem optEqv {H : Hp} {v v' : V} {o : Option (Nat × Nat)} (h : OptStop H v o) (h' : OptStop H v' o) : Eqv 1 H v v' := by
  cases o with
  | none =>
    obtain rfl : v = .non := h
    obtain rfl : v' = .non := h'
    exact Eqv.non
  | some s =>
    obtain ⟨u, rfl, hu⟩ := h
    obtain ⟨u2, rfl, hu2⟩ := h'
    exact .inr (.inl ⟨u, u2, _, _, rfl, rfl, hu, hu2, by show 2 ≤ 1000; decide, .cons Eqv.int (.cons Eqv.int .nil)⟩)
theorem OptStop.keep {H H' : Hp} {v : V} {o : Option (Nat × Nat)} (k : TupKeep H H') (h : OptStop H v o) : OptStop H' v o := by
  cases o with
  | none => exact h
  | some s => exact StopAt.keep k h
abbrev s_l_net : Stmt := top 51
abbrev N_l_net : List Str := ["_law_parts"]
abbrev P_l_net : List Str := ["_law_parts"]
theorem sc_l_net : FnScope N_l_net P_l_net (defScope s_l_net) := ⟨rfl, rfl, rfl, by decide +kernel, rfl, by decide +kernel, by decide +kernel⟩
/-! ### the law's helper: a net of parts -/
def spNet (C : Addr) : Sp := fun vs H Q _ => ∃ (a t : Addr) (p h : Nat) (os : List Od), vs = [.ref a] ∧ H a = some (.tup [.int p, .int h, .ref t]) ∧ OrdsTup H t os ∧ NetOk p h os ∧
  ∀ H' x F, Same H H' → (∀ b ∈ F, H b = none) → NetAt C H' x p h os t F → Q (.ref x) H'
section
variable {P : Program} {w : World} {K : PySem.W.Frag} {mg : Str → Option Value} {base : Heap}
theorem ok_net {f C fI : Addr} {fd fdI : FuncData} (F : Fun K "_law_net" "_law_net" s_l_net f fd) (M : Mk K C fI) (gC : mg "Net" = some (.ref C)) (GI : FnOk P w K mg base CX0 5 fI fdI P_Net_init (spInit C)) (bI : Binds K fdI P_Net_init []) : FnOk P w K mg base CX0 7 f fd P_l_net (spNet C) := by
  refine F.ok sc_l_net (fun vs H Q E h => ?_) (fun cdv A outer s H vs Q E hr h => ?_)
  · obtain ⟨a, t, p, h, os, rfl, _⟩ := h
    rfl
  · obtain ⟨a, t, p, h, os, rfl, ha, hO, ok, q⟩ := h
    refine ⟨_, pss_one (ps_ret (pe_make M GI hr (by rfl) gC bI .nil pass0 (pa_cons (pe_ix ix_tup (pv 0) pe_int (fun _ _ => rfl)) (pa_cons (pe_ix ix_tup (pv 0) pe_int (fun _ _ => rfl)) (pa_cons (pe_ix ix_tup (pv 0) pe_int (fun _ _ => rfl)) pa_nil))))), ?_⟩
    refine ⟨_, rfl, a, _, 0, _, rfl, rfl, SqT.of ha, atI_nat (j := 0) rfl, _, rfl, a, _, 1, _, rfl, rfl, SqT.of ha, atI_nat (j := 1) rfl, _, rfl, a, _, 2, _, rfl, rfl, SqT.of ha, atI_nat (j := 2) rfl, ?_⟩
    intro x dx nx ndx nex
    have s0 : Same H (upd (upd H dx (.own x)) x (.ins C dx [])) := same_updN (same_upd ndx) nx
    exact ⟨x, dx, t, p, h, os, H, rfl, ok, hO.keep (tk_of s0), s0, nx, upd_same, fun H' F s1 nF N => ⟨rfl, q H' x F s1 nF N⟩⟩
end
abbrev s_l_index : Stmt := top 52
abbrev N_l_index : List Str := ["_law_parts", "_law_house", "_law_day", "_law_k", "_law_source", "_law_target", "_law_first", "_law_days", "_law_delay"]
abbrev P_l_index : List Str := ["_law_parts", "_law_house", "_law_day"]
theorem sc_l_index : FnScope N_l_index P_l_index (defScope s_l_index) := ⟨rfl, rfl, rfl, by decide +kernel, rfl, by decide +kernel, by decide +kernel⟩
/-! ### the law's helper: the order by going through -/
def spIndex : Sp := fun vs H Q _ => ∃ (a : Addr) (p h s d : Nat) (os : List Od), vs = [.ref a, .int s, .int d] ∧ PartsAt H a p h os ∧ NetOk p h os ∧ Q (optV (idx p os s (d : Int))) H
section
variable {P : Program} {w : World} {K : PySem.W.Frag} {mg : Str → Option Value} {base : Heap}
theorem ok_index {f : Addr} {fd : FuncData} (F : Fun K "_law_index" "_law_index" s_l_index f fd) (B : Blt mg) : FnOk P w K mg base CX0 2 f fd P_l_index spIndex := by
  refine F.ok sc_l_index (fun vs H Q E h => ?_) (fun cdv A outer s H vs Q E hr h => ?_)
  · obtain ⟨a, p, h, s, d, os, rfl, _⟩ := h
    rfl
  · obtain ⟨a, p, h, s, d, os, rfl, ⟨t, ha, ts, ht, hP⟩, ok, q⟩ := h
    refine ⟨_, pss_cons (ps_for PassesOwn.never rfl (pi_range1 rfl B.range (pa_cons (pe_callB call_len_seq (by rfl) B.len PySem.boot_len (pa_cons (pe_ix ix_tup (pv 0) pe_int (fun _ _ => rfl)) pa_nil)) pa_nil)) (pg_name (i := 3) sc_l_index.nd rfl (.inl rfl))
        (pss_cons (ps_asg (pe_ix ix_tup (pe_ix ix_tup (pv 0) pe_int (fun _ _ => rfl)) (pv 3) (fun _ _ => rfl)) (pg_tup (by rfl) (pgs_cons (pg_name (i := 4) sc_l_index.nd rfl (.inl rfl)) (pgs_cons (pg_name (i := 5) sc_l_index.nd rfl (.inl rfl)) (pgs_cons (pg_name (i := 6) sc_l_index.nd rfl (.inl rfl))
            (pgs_cons (pg_name (i := 7) sc_l_index.nd rfl (.inl rfl)) (pgs_cons (pg_name (i := 8) sc_l_index.nd rfl (.inl rfl)) pgs_nil)))))))
        (pss_one (ps_if (PW.pt (pw_and (pt_cmpR op_eq (pv 4) (pv 1) (nomark _)) (pw_and1 (pt_cmpR op_lt (pe_op op_modN (pe_op op_sub (pv 2) (pv 6)) (pe_ix ix_tup (pv 0) pe_int (fun _ _ => rfl))) (pv 7) (nomark _))))) (pss_one (ps_ret (pv 3))) pss_nil))))
      (pss_one (ps_ret pe_non)), ?_⟩
    have el := hP.length
    have ol := ok.len
    have p1 := ok.p1
    refine ⟨_, rfl, a, _, 2, _, rfl, rfl, SqT.of ha, atI_nat (j := 2) rfl, t, ts, rfl, .inr (SqT.of ht), ts.length, rfl, by omega, by omega, ?_⟩
    refine for_range (lo := 0) (n := (ts.length : Int).toNat) (fun i σ H' => (∃ x3 x4 x5 x6 x7 x8, σ = [some (.ref a), some (.int s), some (.int d), x3, x4, x5, x6, x7, x8]) ∧ H' = H ∧ ∀ j o, j < i → os[j]? = some o → hit p s d o = false)
      ⟨⟨_, _, _, _, _, _, rfl⟩, rfl, fun j o hj => absurd hj (Nat.not_lt_zero _)⟩ ?_ ?_
    · rintro i σ H' hi ⟨⟨x3, x4, x5, x6, x7, x8, rfl⟩, rfl, hno⟩
      have hi2 : i < os.length := by omega
      have eo := List.getElem?_eq_getElem hi2
      obtain ⟨v, hv, u, rfl, hu⟩ := Paired.get? (i := i) hP eo
      generalize os[i] = o at eo hu
      have e0 : V.int (0 + (i : Int)) = .int (i : Nat) := by rw [Int.zero_add]
      refine ⟨_, rfl, a, _, 2, _, rfl, rfl, SqT.of ha, atI_nat (j := 2) rfl, _, rfl, t, ts, ((i : Nat) : Int), _, rfl, e0, SqT.of ht, atI_nat hv, ?_⟩
      refine ⟨u, _, rfl, SqT.of hu, rfl, _, _, rfl, _, _, rfl, _, _, rfl, _, _, rfl, _, _, rfl, rfl, ?_⟩
      have eh : hit p s d o = (decide (o.s = s) && onDay p o d) := rfl
      refine ⟨_, rfl, _, rfl, rfl, _, rfl, ite2 (fun e => ?_) (fun e => ?_)⟩
      · have es : o.s = s := by
          have z := V.int.inj (of_decide_eq_true e)
          omega
        refine ⟨_, rfl, _, rfl, _, _, rfl, rfl, _, rfl, a, _, 0, _, rfl, rfl, SqT.of ha, atI_nat (j := 0) rfl, _, _, rfl, rfl, by omega, _, rfl, _, _, rfl, rfl, _, rfl, ?_⟩
        have em : ((d : Int) - (o.f : Int)).fmod (p : Int) = ((d : Int) - (o.f : Int)) % (p : Int) := Int.fmod_eq_emod_of_nonneg _ (by omega)
        rw [em]
        refine ite2 (fun e2 => ?_) (fun e2 => ?_)
        · have ht2 : hit p s d o = true := by
            rw [eh, decide_eq_true es]
            exact e2
          have ei : idx p os s (d : Int) = some i := by
            unfold idx
            rw [List.findIdx?_eq_some_iff_getElem]
            refine ⟨hi2, ?_, fun j hj => ?_⟩
            · rw [(List.getElem?_eq_some_iff.mp eo).2]
              exact ht2
            · rw [hno j _ hj (List.getElem?_eq_getElem (by omega))]
              exact Bool.false_ne_true
          rw [ei] at q
          refine ⟨_, rfl, ?_⟩
          rw [e0]
          exact q
        · refine ⟨⟨_, _, _, _, _, _, rfl⟩, rfl, fun j o' hj ho' => ?_⟩
          by_cases z : j < i
          · exact hno j o' z ho'
          · obtain rfl : j = i := by omega
            obtain rfl : o' = o := Option.some.inj (ho'.symm.trans eo)
            rw [eh, decide_eq_true es]
            exact Bool.eq_false_iff.mpr e2
      · refine iteF ⟨⟨_, _, _, _, _, _, rfl⟩, rfl, fun j o' hj ho' => ?_⟩
        by_cases z : j < i
        · exact hno j o' z ho'
        · obtain rfl : j = i := by omega
          obtain rfl : o' = o := Option.some.inj (ho'.symm.trans eo)
          rw [eh, decide_eq_false (fun z => e (decide_eq_true (by rw [z]))), Bool.false_and]
    · rintro σ H' ⟨_, rfl, hno⟩
      have ei : idx p os s (d : Int) = none := by
        unfold idx
        rw [List.findIdx?_eq_none_iff]
        intro o ho
        obtain ⟨j, hj⟩ := List.getElem?_of_mem ho
        exact hno j o (by have := (List.getElem?_eq_some_iff.mp hj).1; omega) hj
      rw [ei] at q
      exact q
end
abbrev s_l_journey : Stmt := top 53
abbrev N_l_journey : List Str := ["_law_parts", "_law_house", "_law_day", "_law_stops", "_law_keys", "_law_index_here", "_law_stop"]
abbrev P_l_journey : List Str := ["_law_parts", "_law_house", "_law_day"]
theorem sc_l_journey : FnScope N_l_journey P_l_journey (defScope s_l_journey) := ⟨rfl, rfl, rfl, by decide +kernel, rfl, by decide +kernel, by decide +kernel⟩
/-! ### the law's own journey -/
def spJourney : Sp := fun vs H Q _ => ∃ (a : Addr) (p h hs dy : Nat) (os : List Od), vs = [.ref a, .int hs, .int dy] ∧ PartsAt H a p h os ∧ NetOk p h os ∧ hs < h ∧ ∀ H' r, Same H H' → FolAt H H' r (folR p h os (hs, dy)) → Q (.ref r) H'
section
variable {P : Program} {w : World} {K : PySem.W.Frag} {mg : Str → Option Value} {base : Heap}
theorem ok_journey {f : Addr} {fd : FuncData} (F : Fun K "_law_journey" "_law_journey" s_l_journey f fd) (B : Blt mg) (DX : Df P w K mg base "_law_index" 2 P_l_index spIndex) : FnOk P w K mg base CX0 3 f fd P_l_journey spJourney := by
  obtain ⟨fX, fdX, gX, kX, bX, GX⟩ := DX
  refine F.ok sc_l_journey (fun vs H Q E h => ?_) (fun cdv A outer s H vs Q E hr h => ?_)
  · obtain ⟨a, p, h, hs, dy, os, rfl, _⟩ := h
    rfl
  · obtain ⟨a, p, h, hs, dy, os, rfl, Pa, nok, hh, q⟩ := h
    have hu : (A.deeper (PyProof.Rows.envOfC "_law_journey" (defScope s_l_journey) s.heap.objs.size f cdv)).units + 65 < cLine := by
      have := hr.un
      omega
    refine ⟨_, pss_cons (ps_par (by rfl) sc_l_journey.nd (i := 3) (j := 4) rfl rfl (by decide) rfl rfl (pa_cons (pe_lst (pa_cons (pe_tup (pa_cons (pv 1) (pa_cons (pv 2) pa_nil))) pa_nil))
        (pa_cons (pe_lst (pa_cons (pe_tup (pa_cons (pv 1) (pa_cons (pe_op op_modN (pv 2) (pe_ix ix_tup (pv 0) pe_int (fun _ _ => rfl))) pa_nil))) pa_nil)) pa_nil)) (by rfl))
      (pss_one (ps_while PassesOwn.never (pt_val pe_bl)
        (pss_cons (ps_set (i := 5) sc_l_journey.nd rfl (.inl rfl) (pe_call GX hr (by rfl) gX kX bX .nil pass0 (pa_cons (pv 0) (pa_cons (pe_ix ix_tup (pe_ix ix_list (pv 3) (pe_un un_neg pe_int) (fun _ _ => rfl)) pe_int (fun _ _ => rfl)) (pa_cons (pe_ix ix_tup (pe_ix ix_list (pv 3) (pe_un un_neg pe_int) (fun _ _ => rfl)) pe_int (fun _ _ => rfl)) pa_nil)))))
        (pss_cons (ps_if (pt_cmpR op_isN (pv 5) pe_non (nomark _)) (pss_one (ps_ret (pe_tup (pa_cons (pv 3) (pa_cons pe_non pa_nil))))) pss_nil)
        (pss_cons (ps_set (i := 6) sc_l_journey.nd rfl (.inl rfl) (pe_tup (pa_cons (pe_ix ix_tup (pe_ix ix_tup (pe_ix ix_tup (pv 0) pe_int (fun _ _ => rfl)) (pv 5) (fun _ _ => rfl)) pe_int (fun _ _ => rfl))
            (pa_cons (pe_op op_add (pe_ix ix_tup (pe_ix ix_list (pv 3) (pe_un un_neg pe_int) (fun _ _ => rfl)) pe_int (fun _ _ => rfl)) (pe_ix ix_tup (pe_ix ix_tup (pe_ix ix_tup (pv 0) pe_int (fun _ _ => rfl)) (pv 5) (fun _ _ => rfl)) pe_int (fun _ _ => rfl))) pa_nil))))
        (pss_cons (ps_if (pt_cmpR (op_inD hu) (pe_tup (pa_cons (pe_ix ix_tup (pv 6) pe_int (fun _ _ => rfl)) (pa_cons (pe_op op_modN (pe_ix ix_tup (pv 6) pe_int (fun _ _ => rfl)) (pe_ix ix_tup (pv 0) pe_int (fun _ _ => rfl))) pa_nil))) (pv 4) rfl)
            (pss_one (ps_ret (pe_tup (pa_cons (pe_op op_cat (pv 3) (pe_lst (pa_cons (pv 6) pa_nil))) (pa_cons (pe_bm PySem.F.plainAttrs_list PySem.F.slot_list_index PySem.F.type_list_index (mt_indexD hu) (pv 4)
              (pa_cons (pe_tup (pa_cons (pe_ix ix_tup (pv 6) pe_int (fun _ _ => rfl)) (pa_cons (pe_op op_modN (pe_ix ix_tup (pv 6) pe_int (fun _ _ => rfl)) (pe_ix ix_tup (pv 0) pe_int (fun _ _ => rfl))) pa_nil))) pa_nil)) pa_nil))))) pss_nil)
        (pss_cons (ps_expr (pe_bm PySem.F.plainAttrs_list PySem.F.slot_list_append PySem.F.type_list_append mt_append (pv 3) (pa_cons (pv 6) pa_nil)))
        (pss_one (ps_expr (pe_bm PySem.F.plainAttrs_list PySem.F.slot_list_append PySem.F.type_list_append mt_append (pv 4) (pa_cons (pe_tup (pa_cons (pe_ix ix_tup (pv 6) pe_int (fun _ _ => rfl)) (pa_cons (pe_op op_modN (pe_ix ix_tup (pv 6) pe_int (fun _ _ => rfl)) (pe_ix ix_tup (pv 0) pe_int (fun _ _ => rfl))) pa_nil))) pa_nil))))))))))), ?_⟩
    obtain ⟨t, ha, hO⟩ := id Pa
    have p1 := nok.p1; have p30 := nok.p30; have h10 := nok.h10; have ol := nok.len
    have hbig := small301 nok
    -- [(house, day)], [(house, day % period)]
    refine ⟨_, rfl, _, rfl, (by show 2 ≤ sizeLine; decide), fun v0 nv0 => ⟨(by show 1 ≤ sizeLine; decide), fun sl nsl => ?_⟩⟩
    have s1 := same_upd (o := HO.tup [.int hs, .int dy]) nv0
    have s2 := same_upd (o := HO.lst [.ref v0]) nsl
    have s12 := s1.trans s2
    refine ⟨_, rfl, _, rfl, _, rfl, a, _, 0, _, rfl, rfl, SqT.of (s12 _ _ ha), atI_nat (j := 0) rfl, _, _, rfl, rfl, by omega, (by show 2 ≤ sizeLine; decide), fun k0 nk0 => ⟨(by show 1 ≤ sizeLine; decide), fun kl nkl => ?_⟩⟩
    have s3 := same_upd (o := HO.tup [.int hs, .int ((dy : Int).fmod (p : Int))]) nk0
    have s4 := same_upd (o := HO.lst [.ref k0]) nkl
    have s34 := s3.trans s4
    have nsl0 : H sl = none := s1.free nsl
    have nkl0 : H kl = none := s12.free (s3.free nkl)
    have nskl : sl ≠ kl := ne_of_none (s3 _ _ (upd_same (H := upd H v0 _))) nkl
    have hv0 := s34 _ _ (s2 _ _ (upd_same (H := H) (a := v0) (o := HO.tup [.int hs, .int dy])))
    have hsl0 := s34 _ _ (upd_same (H := upd H v0 (.tup [.int hs, .int dy])) (a := sl) (o := HO.lst [.ref v0]))
    have hk0 := s4 _ _ (upd_same (H := upd (upd H v0 (.tup [.int hs, .int dy])) sl (.lst [.ref v0])) (a := k0) (o := HO.tup [.int hs, .int ((dy : Int).fmod (p : Int))]))
    have sH0 : Same H _ := s12.trans s34
    have hkl0 : (upd (upd (upd (upd H v0 (.tup [.int hs, .int dy])) sl (.lst [.ref v0])) k0 (.tup [.int hs, .int ((dy : Int).fmod (p : Int))])) kl (.lst [.ref k0])) kl = some (.lst [.ref k0]) := upd_same
    generalize (upd (upd (upd (upd H v0 (.tup [.int hs, .int dy])) sl (.lst [.ref v0])) k0 (.tup [.int hs, .int ((dy : Int).fmod (p : Int))])) kl (.lst [.ref k0])) = H0 at hv0 hsl0 hk0 sH0 hkl0
    refine ⟨_, _, rfl, ?_⟩
    have hwl := way_len p os (h * p + 1) (hs, dy)
    generalize hL : way p os (h * p + 1) (hs, dy) = L at hwl
    have hLne : L[0]? = some (hs, dy) := by
      rw [← hL, show way p os (h * p + 1) (hs, dy) = rest p os (h * p + 1) (some (hs, dy)) from rfl, rest_succ]
      rfl
    have hres : folR p h os (hs, dy) = fol p [] L := by unfold folR; rw [hL]
    have hhL : ∀ st ∈ L, st.1 < h := by rw [← hL]; exact way_house nok hh
    let W : Nat → L2.St → Hp → Prop := fun m σ' H' => ∃ (i : Nat) (vs ks : List V) (x5 x6 : Option V), 1 ≤ i ∧ i + m = h * p + 1 ∧ i ≤ L.length ∧ σ' = [some (.ref a), some (.int hs), some (.int dy), some (.ref sl), some (.ref kl), x5, x6] ∧ PartsAt H' a p h os ∧ H' sl = some (.lst vs) ∧ Paired (StopAt H') vs (L.take i) ∧
        H' kl = some (.lst ks) ∧ Paired (StopAt H') ks ((L.take i).map (plc p)) ∧ ((L.take i).map (plc p)).Nodup ∧ fol p (L.take i) (L.drop i) = folR p h os (hs, dy) ∧ Same H H'
    refine ⟨W, ⟨h * p, 1, [.ref v0], [.ref k0], none, none, Nat.le_refl _, by omega, ?_, rfl, Pa.keep (tk_of sH0), hsl0, ?_, hkl0, ?_, ?_, ?_, sH0⟩, ?_⟩
    · exact (List.getElem?_eq_some_iff.mp hLne).1
    · rw [List.take_add_one, hLne]
      exact .cons ⟨v0, rfl, hv0⟩ .nil
    · rw [List.take_add_one, hLne]
      refine .cons ⟨k0, rfl, ?_⟩ .nil
      rw [hk0, fmod_nat]
      rfl
    · rw [List.take_add_one, hLne]
      simp
    · rw [hres]
      have e : L = (hs, dy) :: L.drop 1 := by
        have lt := (List.getElem?_eq_some_iff.mp hLne).1
        have e1 := List.drop_eq_getElem_cons lt
        rw [List.drop_zero] at e1
        rw [e1]
        congr 1
        exact (List.getElem?_eq_some_iff.mp hLne).2
      have e2 : L.take 1 = [(hs, dy)] := by
        rw [List.take_add_one, hLne]
        rfl
      rw [e2]
      conv => rhs; rw [e]
      exact fol_first.symm
    · rintro m σ' H1 ⟨i, vs, ks, x5, x6, i1, him, hiL, rfl, P1, hsl, hvs, hkl, hks, nd, hfol, sH⟩
      refine ⟨_, rfl, iteT ⟨fun σ' H' => ∃ m', m' < m ∧ W m' σ' H', fun _ _ hN => hN, ?_⟩⟩
      -- the last stop
      have hc : ∃ c, L[i - 1]? = some c := ⟨L[i - 1]'(by omega), List.getElem?_eq_getElem (by omega)⟩
      obtain ⟨c, hc⟩ := hc
      have htk : L.take i = L.take (i - 1) ++ [c] := by
        rw [show i = (i - 1) + 1 by omega, List.take_add_one]
        rw [show i - 1 + 1 - 1 = i - 1 by omega, hc]
        rfl
      have hvs0 := hvs
      rw [htk] at hvs0
      obtain ⟨vs', vc, rfl, _, uc, rfl, huc⟩ := pair_split hvs0
      have hat : atI (vs' ++ [V.ref uc]) (-1) = some (V.ref uc) := atI_last _ _
      obtain ⟨t1, ha1, hO1⟩ := id P1
      have hch : c.1 < h := hhL c (List.mem_of_getElem? hc)
      have hib : i ≤ h * p := by
        have b := places_bound (by omega) (fun st hst => hhL st (List.mem_of_mem_take hst)) nd
        rw [List.length_take] at b
        omega
      have hnext : L.drop i = rest p os (h * p + 1 - i) (hop p os c) := by
        have e := way_next (p := p) (os := os) (n := h * p + 1) (st := (hs, dy)) (i := i - 1) (c := c) (by rw [hL]; exact hc) (by omega)
        rw [hL, show i - 1 + 1 = i by omega] at e
        exact e
      refine ⟨_, rfl, _, rfl, 1, rfl, sl, _, -1, _, rfl, rfl, SqL.of hsl, hat, uc, _, 0, _, rfl, rfl, SqT.of huc, atI_nat (j := 0) rfl, _, rfl, 1, rfl, sl, _, -1, _, rfl, rfl, SqL.of hsl, hat, uc, _, 1, _, rfl, rfl, SqT.of huc, atI_nat (j := 1) rfl, ?_⟩
      refine ⟨a, p, h, c.1, c.2, os, rfl, P1, nok, _, rfl, rfl, _, rfl, ?_⟩
      cases ei : idx p os c.1 (c.2 : Int) with
      | none =>
        have eh : hop p os c = none := by
          unfold hop
          rw [ei]
        rw [eh] at hnext
        have hdn : L.drop i = [] := hnext
        rw [hdn] at hfol
        refine iteT ⟨_, rfl, (by show 2 ≤ sizeLine; decide), fun r nr => ?_⟩
        have s5 := same_upd (o := HO.tup [.ref sl, .non]) nr
        refine q _ r (sH.trans s5) ?_
        rw [← hfol]
        exact ⟨sl, _, sH.free nr, upd_same, nsl0, s5 _ _ hsl, StopsAt.keep (tk_of s5) hvs⟩
      | some k =>
        have hk := idx_lt ei
        have ek := List.getElem?_eq_getElem hk
        obtain ⟨ts, htt, hP⟩ := id hO1
        obtain ⟨vo, hvo, uo, rfl, huo⟩ := Paired.get? (i := k) hP ek
        have eh : hop p os c = some ((os[k]).t, c.2 + (os[k]).e) := by
          unfold hop
          simp only [ei]
          rw [ek]
          rfl
        generalize os[k] = o at huo eh
        rw [eh] at hnext
        have e2 : h * p + 1 - i = (h * p - i) + 1 := by omega
        rw [e2, rest_succ] at hnext
        have hLi : L[i]? = some (o.t, c.2 + o.e) := by
          have := congrArg (fun l => l[0]?) hnext
          simp only [List.getElem?_drop, Nat.add_zero] at this
          exact this
        have hdr : L.drop i = (o.t, c.2 + o.e) :: L.drop (i + 1) := by
          have lt := (List.getElem?_eq_some_iff.mp hLi).1
          rw [List.drop_eq_getElem_cons lt]
          congr 1
          exact (List.getElem?_eq_some_iff.mp hLi).2
        rw [hdr] at hfol
        unfold fol at hfol
        -- stop = (..)
        refine iteF ⟨_, rfl, a, _, 2, _, rfl, rfl, SqT.of ha1, atI_nat (j := 2) rfl, _, rfl, t1, ts, _, _, rfl, rfl, SqT.of htt, atI_nat hvo, uo, _, 1, _, rfl, rfl, SqT.of huo, atI_nat (j := 1) rfl, ?_⟩
        refine ⟨_, rfl, 1, rfl, sl, _, -1, _, rfl, rfl, SqL.of hsl, hat, uc, _, 1, _, rfl, rfl, SqT.of huc, atI_nat (j := 1) rfl, ?_⟩
        refine ⟨_, rfl, a, _, 2, _, rfl, rfl, SqT.of ha1, atI_nat (j := 2) rfl, _, rfl, t1, ts, _, _, rfl, rfl, SqT.of htt, atI_nat hvo, uo, _, 4, _, rfl, rfl, SqT.of huo, atI_nat (j := 4) rfl, _, _, rfl, rfl, (by show 2 ≤ sizeLine; decide), fun us nus => ?_⟩
        have s5 := same_upd (o := HO.tup [.int o.t, .int ((c.2 : Int) + (o.e : Int))]) nus
        have hus : (upd H1 us (.tup [.int o.t, .int ((c.2 : Int) + (o.e : Int))])) us = some (.tup [.int (o.t : Nat), .int ((c.2 + o.e : Nat) : Int)]) := by
          rw [upd_same, Int.natCast_add]
        have nussl : us ≠ sl := (ne_of_none hsl nus).symm
        have nuskl : us ≠ kl := (ne_of_none hkl nus).symm
        have P5 := P1.keep (tk_of s5)
        have hsl5 := s5 _ _ hsl
        have hkl5 := s5 _ _ hkl
        have hvs5 := StopsAt.keep (tk_of s5) hvs
        have hks5 := StopsAt.keep (tk_of s5) hks
        have ha5 := s5 _ _ ha1
        have sH5 := sH.trans s5
        generalize (upd H1 us (.tup [.int o.t, .int ((c.2 : Int) + (o.e : Int))])) = H5 at hus P5 hsl5 hkl5 hvs5 hks5 ha5 sH5
        -- the place in keys?
        refine ⟨_, rfl, us, _, 0, _, rfl, rfl, SqT.of hus, atI_nat (j := 0) rfl, _, rfl, us, _, 1, _, rfl, rfl, SqT.of hus, atI_nat (j := 1) rfl, _, rfl, a, _, 0, _, rfl, rfl, SqT.of ha5, atI_nat (j := 0) rfl, _, _, rfl, rfl, by omega, (by show 2 ≤ sizeLine; decide), fun pk npk => ?_⟩
        have em : ((c.2 + o.e : Nat) : Int).fmod (p : Int) = (((c.2 + o.e) % p : Nat) : Int) := fmod_nat _ _
        have s6 := same_upd (o := HO.tup [.int (o.t : Nat), .int (((c.2 + o.e : Nat) : Int).fmod (p : Int))]) npk
        have hpk : StopAt (upd H5 pk (.tup [.int (o.t : Nat), .int (((c.2 + o.e : Nat) : Int).fmod (p : Int))])) (.ref pk) (plc p (o.t, c.2 + o.e)) := ⟨pk, rfl, by rw [upd_same, em]; rfl⟩
        have hks6 := StopsAt.keep (tk_of s6) hks5
        have hus6 := s6 _ _ hus
        have ha6 := s6 _ _ ha5
        have hsl6 := s6 _ _ hsl5
        have hkl6 := s6 _ _ hkl5
        have sH6 := sH5.trans s6
        have hvs6 := StopsAt.keep (tk_of s6) hvs5
        have P6 := P5.keep (tk_of s6)
        generalize (upd H5 pk (.tup [.int (o.t : Nat), .int (((c.2 + o.e : Nat) : Int).fmod (p : Int))])) = H6 at hpk hks6 hus6 ha6 hsl6 hkl6 sH6 hvs6 P6
        refine ⟨_, rfl, plD (plc p (o.t, c.2 + o.e)), ((L.take i).map (plc p)).map plD, stop_dp hpk, .lst (SqL.of hkl6) (stops_dp hks6), plD_shaped _, plDs_shaped _, _, rfl, ?_⟩
        have eany : ((((L.take i).map (plc p)).map plD).any fun z => PyData.eqv z (plD (plc p (o.t, c.2 + o.e)))) = (L.take i).any fun t => decide (plc p t = plc p (o.t, c.2 + o.e)) := by
          rw [List.map_map, List.any_map]
          congr 1
          funext t
          exact plD_eqv _ _
        rw [eany]
        cases hf : (L.take i).findIdx? (fun t => decide (plc p t = plc p (o.t, c.2 + o.e))) with
        | some b =>
          simp only [hf] at hfol
          have ea : ((L.take i).any fun t => decide (plc p t = plc p (o.t, c.2 + o.e))) = true := by rw [← List.findIdx?_isSome, hf]; rfl
          rw [ea]
          obtain ⟨hb1, hb2, hb3⟩ := List.findIdx?_eq_some_iff_getElem.mp hf
          refine iteT ⟨_, rfl, _, rfl, (by show 1 ≤ sizeLine; decide), fun n1 nn1 => ?_⟩
          have s7 := same_upd (o := HO.lst [.ref us]) nn1
          refine ⟨sl, n1, _, _, rfl, rfl, s7 _ _ hsl6, upd_same, ?_, fun n2 nn2 => ?_⟩
          · have e := hvs.length
            rw [List.length_take] at e
            rw [e]
            exact Nat.le_of_lt (small1000 (by show min i L.length + 1 ≤ 1000; omega))
          have s8 := same_upd (o := HO.lst (vs' ++ [V.ref uc] ++ [.ref us])) nn2
          have s78 := s7.trans s8
          have hn2 : (upd (upd H6 n1 (.lst [.ref us])) n2 (.lst (vs' ++ [V.ref uc] ++ [.ref us]))) n2 = some (.lst (vs' ++ [V.ref uc] ++ [.ref us])) := upd_same
          have nn20 : H6 n2 = none := s7.free nn2
          have hks8 := StopsAt.keep (tk_of s78) hks6
          have hkl8 := s78 _ _ hkl6
          have hus8 := s78 _ _ hus6
          have ha8 := s78 _ _ ha6
          have hvs8 := StopsAt.keep (tk_of s78) hvs6
          have sH8 := sH6.trans s78
          generalize (upd (upd H6 n1 (.lst [.ref us])) n2 (.lst (vs' ++ [V.ref uc] ++ [.ref us]))) = H8 at hn2 hks8 hkl8 hus8 ha8 hvs8 sH8
          refine ⟨_, rfl, .inl ⟨rfl, _, SqL.of hkl8⟩, ?_⟩
          refine ⟨_, rfl, us, _, 0, _, rfl, rfl, SqT.of hus8, atI_nat (j := 0) rfl, _, rfl, us, _, 1, _, rfl, rfl, SqT.of hus8, atI_nat (j := 1) rfl, _, rfl, a, _, 0, _, rfl, rfl, SqT.of ha8, atI_nat (j := 0) rfl, _, _, rfl, rfl, by omega, (by show 2 ≤ sizeLine; decide), fun pk2 npk2 => ?_⟩
          have s9 := same_upd (o := HO.tup [.int (o.t : Nat), .int (((c.2 + o.e : Nat) : Int).fmod (p : Int))]) npk2
          have hpk2 : StopAt (upd H8 pk2 (.tup [.int (o.t : Nat), .int (((c.2 + o.e : Nat) : Int).fmod (p : Int))])) (.ref pk2) (plc p (o.t, c.2 + o.e)) := ⟨pk2, rfl, by rw [upd_same, em]; rfl⟩
          refine ⟨kl, _, plD (plc p (o.t, c.2 + o.e)), ((L.take i).map (plc p)).map plD, b, plD (plc p ((L.take i)[b])), rfl, rfl, .lst (SqL.of (s9 _ _ hkl8)) (stops_dp (StopsAt.keep (tk_of s9) hks8)), stop_dp hpk2, plDs_shaped _, plD_shaped _, ?_, ?_, fun m z hm hz => ?_, (by show 2 ≤ sizeLine; decide), fun r nr => ?_⟩
          · rw [List.getElem?_map, List.getElem?_map, List.getElem?_eq_getElem hb1]
            rfl
          · rw [plD_eqv]
            exact hb2
          · have hm2 : m < (L.take i).length := Nat.lt_trans hm hb1
            rw [List.getElem?_map, List.getElem?_map, List.getElem?_eq_getElem hm2] at hz
            have ez : plD (plc p ((L.take i)[m])) = z := Option.some.inj hz
            rw [← ez, plD_eqv]
            exact Bool.eq_false_iff.mpr (hb3 m hm)
          · have s10 := same_upd (o := HO.tup [.ref n2, .int (b : Nat)]) nr
            have s910 := s9.trans s10
            refine q _ r (sH8.trans s910) ?_
            rw [← hfol]
            refine ⟨n2, _, sH8.free (s9.free nr), upd_same, sH6.free nn20, s910 _ _ hn2, ?_⟩
            exact Paired.snoc (StopsAt.keep (tk_of s910) hvs8) ⟨us, rfl, s910 _ _ hus8⟩
        | none =>
          simp only [hf] at hfol
          have ea : ((L.take i).any fun t => decide (plc p t = plc p (o.t, c.2 + o.e))) = false := by
            have e := List.findIdx?_isSome (xs := L.take i) (p := fun t => decide (plc p t = plc p (o.t, c.2 + o.e)))
            rw [hf] at e
            exact e.symm
          rw [ea]
          have hlt : i < L.length := (List.getElem?_eq_some_iff.mp hLi).1
          have htk2 : L.take (i + 1) = L.take i ++ [(o.t, c.2 + o.e)] := by
            rw [List.take_add_one, hLi]
            rfl
          have vlen := hvs.length
          have klen := hks.length
          rw [List.length_take] at vlen
          rw [List.length_map, List.length_take] at klen
          refine iteF ⟨_, rfl, .inl ⟨rfl, _, SqL.of hsl6⟩, _, rfl, sl, _, _, rfl, rfl, hsl6, ?_, ?_⟩
          · rw [vlen]
            exact small1000 (by omega)
          have k7 : TupKeep H6 (upd H6 sl (.lst (vs' ++ [V.ref uc] ++ [.ref us]))) := TupKeep.lst hsl6
          have hkl7 : (upd H6 sl (.lst (vs' ++ [V.ref uc] ++ [.ref us]))) kl = some (.lst ks) := (upd_ne nskl.symm).trans hkl6
          have hus7 := k7 _ _ hus6
          have ha7 := k7 _ _ ha6
          refine ⟨_, rfl, .inl ⟨rfl, _, SqL.of hkl7⟩, ?_⟩
          refine ⟨_, rfl, us, _, 0, _, rfl, rfl, SqT.of hus7, atI_nat (j := 0) rfl, _, rfl, us, _, 1, _, rfl, rfl, SqT.of hus7, atI_nat (j := 1) rfl, _, rfl, a, _, 0, _, rfl, rfl, SqT.of ha7, atI_nat (j := 0) rfl, _, _, rfl, rfl, by omega, (by show 2 ≤ sizeLine; decide), fun pk2 npk2 => ?_⟩
          have s8 := same_upd (o := HO.tup [.int (o.t : Nat), .int (((c.2 + o.e : Nat) : Int).fmod (p : Int))]) npk2
          have hkl8 := s8 _ _ hkl7
          have hpk2 : StopAt (upd (upd H6 sl (.lst (vs' ++ [V.ref uc] ++ [.ref us]))) pk2 (.tup [.int (o.t : Nat), .int (((c.2 + o.e : Nat) : Int).fmod (p : Int))])) (.ref pk2) (plc p (o.t, c.2 + o.e)) := ⟨pk2, rfl, by rw [upd_same, em]; rfl⟩
          have k8 := k7.trans (tk_of s8)
          have hsl8 : (upd (upd H6 sl (.lst (vs' ++ [V.ref uc] ++ [.ref us]))) pk2 (.tup [.int (o.t : Nat), .int (((c.2 + o.e : Nat) : Int).fmod (p : Int))])) sl = some (.lst (vs' ++ [V.ref uc] ++ [.ref us])) := s8 _ _ upd_same
          have sH8 : Same H (upd (upd H6 sl (.lst (vs' ++ [V.ref uc] ++ [.ref us]))) pk2 (.tup [.int (o.t : Nat), .int (((c.2 + o.e : Nat) : Int).fmod (p : Int))])) := fun b' o' e' => by
            refine s8 _ _ ?_
            rw [upd_ne (ne_of_none e' nsl0)]
            exact sH6 _ _ e'
          have hvs8 := StopsAt.keep k8 hvs6
          have hks8 := StopsAt.keep k8 hks6
          have hus8 := s8 _ _ hus7
          have P8 := P6.keep k8
          generalize (upd (upd H6 sl (.lst (vs' ++ [V.ref uc] ++ [.ref us]))) pk2 (.tup [.int (o.t : Nat), .int (((c.2 + o.e : Nat) : Int).fmod (p : Int))])) = H8 at hkl8 hpk2 hsl8 sH8 hvs8 hks8 hus8 P8
          refine ⟨kl, _, _, rfl, rfl, hkl8, ?_, ?_⟩
          · rw [klen]
            exact small1000 (by omega)
          have k9 : TupKeep H8 (upd H8 kl (.lst (ks ++ [.ref pk2]))) := TupKeep.lst hkl8
          obtain ⟨m, rfl⟩ : ∃ m', m = m' + 1 := ⟨m - 1, by omega⟩
          refine ⟨m, Nat.lt_succ_self _, i + 1, _, _, _, _, by omega, by omega, hlt, rfl, P8.keep k9, (upd_ne nskl).trans hsl8, ?_, upd_same, ?_, ?_, ?_, fun b' o' e' => ?_⟩
          · rw [htk2]
            exact Paired.snoc (StopsAt.keep k9 hvs8) ⟨us, rfl, k9 _ _ hus8⟩
          · rw [htk2, List.map_append]
            exact Paired.snoc (StopsAt.keep k9 hks8) (StopAt.keep k9 hpk2)
          · rw [htk2, List.map_append, List.nodup_append]
            refine ⟨nd, by simp, fun x hx y hy => ?_⟩
            rw [List.map_cons, List.map_nil, List.mem_singleton] at hy
            rw [hy]
            intro exy
            obtain ⟨t', ht', et'⟩ := List.mem_map.mp hx
            have := List.any_eq_false.mp ea t' ht'
            exact this (decide_eq_true (et'.trans exy))
          · rw [htk2]
            exact hfol
          · rw [upd_ne (ne_of_none e' nkl0)]
            exact sH8 _ _ e'
end
/-! ### the law -/
def spLaw (K : PySem.W.Frag) : Sp := fun vs H Q _ => ∃ (a : Addr) (ns : List Int), vs = [.ref a] ∧ SqL K H a (ns.map V.int) ∧ ns.length ≤ 63 ∧ ∀ H', Q (.bl true) H'
/-- all that the law's step leans on, at the heap H -/
structure StepAt (C : Addr) (H : Hp) (d ap x t : Addr) (p h : Nat) (os : List Od) (F : List Addr) : Prop where
  D : DAt H d
  pa : H ap = some (.tup [.int p, .int h, .ref t])
  po : OrdsTup H t os
  N : NetAt C H x p h os t F
theorem StepAt.keep {C : Addr} {H H' : Hp} {d ap x t : Addr} {p h : Nat} {os : List Od} {F : List Addr} (S : StepAt C H d ap x t p h os F) (s : Same H H') : StepAt C H' d ap x t p h os F :=
  ⟨S.D.but s, s _ _ S.pa, S.po.keep (tk_of s), S.N.same s⟩
theorem StepAt.but {C : Addr} {H H' : Hp} {d ap x t : Addr} {p h : Nat} {os : List Od} {F : List Addr} (S : StepAt C H d ap x t p h os F) (s : But d H H') (D' : DAt H' d) (nF : d ∉ F) : StepAt C H' d ap x t p h os F :=
  ⟨D', s.tk S.D _ _ S.pa, S.po.keep (s.tk S.D), S.N.but s (s.tk S.D) nF⟩
theorem StepAt.lst {C : Addr} {H : Hp} {d ap x t u : Addr} {p h : Nat} {os : List Od} {F : List Addr} {xs : List V} {o : HO} (S : StepAt C H d ap x t p h os F) (hu : H u = some (.lst xs)) (nd : d ≠ u) (nF : u ∉ F) : StepAt C (upd H u o) d ap x t p h os F := by
  have tk : TupKeep H (upd H u o) := TupKeep.lst hu
  exact ⟨S.D.updN nd, tk _ _ S.pa, S.po.keep tk, S.N.but .upd tk nF⟩
theorem StepAt.parts {C : Addr} {H : Hp} {d ap x t : Addr} {p h : Nat} {os : List Od} {F : List Addr} (S : StepAt C H d ap x t p h os F) : PartsAt H ap p h os := ⟨t, S.pa, S.po⟩
theorem ordsEqv {H : Hp} {t : Addr} {os : List Od} (h : OrdsTup H t os) (l : os.length ≤ 20) : Eqv 2 H (.ref t) (.ref t) := by
  obtain ⟨ts, ht, hP⟩ := h
  refine .inr (.inl ⟨t, t, ts, ts, rfl, rfl, ht, ht, by rw [hP.length]; omega, ?_⟩)
  clear l ht
  induction hP with
  | nil => exact .nil
  | cons r _ ih =>
    refine .cons ?_ ih
    obtain ⟨u, rfl, hu⟩ := r
    exact .inr (.inl ⟨u, u, _, _, rfl, rfl, hu, hu, by show 5 ≤ 1000; decide, .cons Eqv.int (.cons Eqv.int (.cons Eqv.int (.cons Eqv.int (.cons Eqv.int .nil))))⟩)
theorem nintsEqv {H : Hp} {a b : Addr} {l : List Nat} (ha : H a = some (.lst (nints l))) (hb : H b = some (.lst (nints l))) (hl : l.length ≤ 1000) : Eqv 1 H (.ref a) (.ref b) := by
  refine .inr (.inr ⟨a, b, _, _, rfl, rfl, ha, hb, by unfold nints; rw [List.length_map]; exact hl, ?_⟩)
  unfold nints
  clear ha hb hl
  induction l with
  | nil => exact .nil
  | cons n l ih => exact .cons ⟨rfl, .inr (.inr (.inl ⟨_, rfl⟩))⟩ ih
theorem stopsEqv {H : Hp} {a b : Addr} {xs ys : List V} {l : List (Nat × Nat)} (ha : H a = some (.lst xs)) (hb : H b = some (.lst ys)) (hx : Paired (StopAt H) xs l) (hy : Paired (StopAt H) ys l) (hl : l.length ≤ 1000) : Eqv 2 H (.ref a) (.ref b) := by
  refine .inr (.inr ⟨a, b, _, _, rfl, rfl, ha, hb, by rw [hx.length]; exact hl, ?_⟩)
  clear ha hb hl
  induction hx generalizing ys with
  | nil => cases hy; exact .nil
  | cons r _ ih =>
    cases hy with
    | cons r2 t2 =>
      refine .cons ?_ (ih t2)
      obtain ⟨u, rfl, hu⟩ := r
      obtain ⟨u2, rfl, hu2⟩ := r2
      exact .inr (.inl ⟨u, u2, _, _, rfl, rfl, hu, hu2, by show 2 ≤ 1000; decide, .cons (Eqv.int) (.cons Eqv.int .nil)⟩)
theorem optV_flat1 (o : Option Nat) : Flat1 (optV o) := by
  cases o with
  | none => exact .inl rfl
  | some k => exact .inr (.inr (.inl ⟨_, rfl⟩))
theorem Paired.last {α β : Type} {F : α → β → Prop} {xs : List α} {l : List β} {s : β} (h : Paired F xs (l ++ [s])) : ∃ ys v, xs = ys ++ [v] ∧ Paired F ys l ∧ F v s := by
  induction l generalizing xs with
  | nil =>
    cases h with
    | cons r t =>
      cases t
      exact ⟨[], _, rfl, .nil, r⟩
  | cons b l ih =>
    cases h with
    | cons r t =>
      obtain ⟨ys, v, rfl, h1, h2⟩ := ih t
      exact ⟨_ :: ys, v, rfl, .cons r h1, h2⟩
theorem Paired.take {α β : Type} {F : α → β → Prop} {xs : List α} {l : List β} (h : Paired F xs l) : ∀ n, Paired F (xs.take n) (l.take n) := by
  induction h with
  | nil =>
    intro n
    rw [List.take_nil, List.take_nil]
    exact .nil
  | cons r _ ih =>
    intro n
    cases n with
    | zero => exact .nil
    | succ n => exact .cons r (ih n)
theorem nints_dp {K : PySem.W.Frag} {H : Hp} {a : Addr} {l : List Nat} (h : H a = some (.lst (nints l))) : Dp K H (.ref a) (.list ((l.map fun (n : Nat) => (n : Int)).map PyData.int)) := by
  refine .lst (SqL.of h) ?_
  clear h
  unfold nints
  induction l with
  | nil => exact .nil
  | cons n l ih => exact .cons (.int _) ih
theorem nints_eqv (l : List Int) : PyData.eqv (.list (l.map PyData.int)) (.list (l.map PyData.int)) = true :=
  PySem.SeqAt.eqv_refl _ (PySem.SeqAt.canLay_of_shaped (PySem.W.ke_shaped_ints l))
abbrev s_l_result : Stmt := top 54
abbrev N_l_result : List Str := ["_law_parts", "_law_house", "_law_day", "_law_stops", "_law_again"]
abbrev P_l_result : List Str := ["_law_parts", "_law_house", "_law_day"]
theorem sc_l_result : FnScope N_l_result P_l_result (defScope s_l_result) := ⟨rfl, rfl, rfl, by decide +kernel, rfl, by decide +kernel, by decide +kernel⟩
def spResult : Sp := fun vs H Q _ => ∃ (a : Addr) (p h hs dy : Nat) (os : List Od), vs = [.ref a, .int hs, .int dy] ∧ PartsAt H a p h os ∧ NetOk p h os ∧ hs < h ∧ ∀ H' v, Same H H' → OptStop H' v (destOf (folR p h os (hs, dy))) → Q v H'
section
variable {P : Program} {w : World} {K : PySem.W.Frag} {mg : Str → Option Value} {base : Heap}
theorem ok_result {f : Addr} {fd : FuncData} (F : Fun K "_law_result" "_law_result" s_l_result f fd) (DJ : Df P w K mg base "_law_journey" 3 P_l_journey spJourney) : FnOk P w K mg base CX0 4 f fd P_l_result spResult := by
  obtain ⟨fJ, fdJ, gJ, kJ, bJ, GJ⟩ := DJ
  refine F.ok sc_l_result (fun vs H Q E h => ?_) (fun cdv A outer s H vs Q E hr h => ?_)
  · obtain ⟨a, p, h, hs, dy, os, rfl, _⟩ := h
    rfl
  · obtain ⟨a, p, h, hs, dy, os, rfl, Pa, nok, hh, q⟩ := h
    refine ⟨_, pss_cons (ps_asg (pe_call GJ hr (by rfl) gJ kJ bJ .nil pass0 (pa_cons (pv 0) (pa_cons (pv 1) (pa_cons (pv 2) pa_nil)))) (pg_tup (by rfl) (pgs_cons (pg_name (i := 3) sc_l_result.nd rfl (.inl rfl)) (pgs_cons (pg_name (i := 4) sc_l_result.nd rfl (.inl rfl)) pgs_nil))))
      (pss_one (ps_ret (pe_ifExp (pt_cmpR op_isN (pv 4) pe_non (nomark _)) (pe_ix ix_list (pv 3) (pe_un un_neg pe_int) (fun _ _ => rfl)) pe_non))), ?_⟩
    refine ⟨_, rfl, _, rfl, _, rfl, a, p, h, hs, dy, os, rfl, Pa, nok, hh, fun H1 r s1 ⟨sl, vs, _, hr1, nsl, hsl, hvs⟩ => ?_⟩
    refine ⟨r, _, rfl, SqT.of hr1, rfl, _, _, rfl, _, _, rfl, rfl, ?_⟩
    have hne := folR_ne (p := p) (h := h) (os := os) (st := (hs, dy))
    unfold destOf at q
    generalize folR p h os (hs, dy) = res at hr1 hvs hne q
    obtain ⟨l, b⟩ := res
    refine ⟨_, rfl, rfl, _, rfl, ?_⟩
    cases b with
    | some b => exact iteF (q H1 .non s1 rfl)
    | none =>
      obtain ⟨l', c, rfl⟩ : ∃ l' c, l = l' ++ [c] := ⟨l.dropLast, l.getLast hne, (List.dropLast_concat_getLast hne).symm⟩
      obtain ⟨vs', v, rfl, _, hv⟩ := pair_split hvs
      refine iteT ⟨_, rfl, 1, rfl, sl, _, -1, _, rfl, rfl, SqL.of hsl, atI_last _ _, q H1 v s1 ?_⟩
      show OptStop H1 v ((l' ++ [c]).getLast?)
      rw [List.getLast?_concat]
      exact hv
end
/-! ### loops: plain mathematics -/
theorem plc_shf {p k : Nat} (s : Nat × Nat) : plc p (shf (p * k) s) = plc p s := by
  unfold plc shf
  rw [Nat.add_mul_mod_self_left]
theorem plc_plc {p : Nat} (s : Nat × Nat) : plc p (plc p s) = plc p s := by
  unfold plc
  rw [Nat.mod_mod]
theorem shf_plc {p : Nat} (s : Nat × Nat) : s = shf (p * (s.2 / p)) (plc p s) := by
  obtain ⟨a, d⟩ := s
  show (a, d) = (a, d % p + p * (d / p))
  rw [Nat.add_comm, Nat.div_add_mod]
/-- a letter's place behind i hops -/
def pst (p : Nat) (os : List Od) (i : Nat) (q : Nat × Nat) : Option (Nat × Nat) := (stp p os i q).map (plc p)
theorem pst_shf {p i k : Nat} {os : List Od} (s : Nat × Nat) : pst p os i (shf (p * k) s) = pst p os i s := by
  unfold pst
  rw [stp_shf, Option.map_map]
  congr 1
  funext t
  exact plc_shf t
theorem pst_plc {p i : Nat} {os : List Od} (s : Nat × Nat) : pst p os i (plc p s) = pst p os i s := by
  conv => rhs; rw [shf_plc (p := p) s]
  rw [pst_shf]
theorem pst_add {p i j : Nat} {os : List Od} (s : Nat × Nat) : pst p os (i + j) s = (pst p os i s).bind (pst p os j) := by
  unfold pst
  rw [stp_add]
  cases stp p os i s with
  | none => rfl
  | some c => exact (pst_plc c).symm
theorem pst_zero {p : Nat} {os : List Od} (s : Nat × Nat) : pst p os 0 s = some (plc p s) := rfl
/-- l is a loop: the places that f goes through, again and again -/
structure CycF (p : Nat) (os : List Od) (l : List (Nat × Nat)) (f : Nat → Nat × Nat) (n : Nat) : Prop where
  n0 : 0 < n
  eq : l = (List.range n).map f
  nd : l.Nodup
  nx : ∀ i, pst p os 1 (f i) = some (f (i + 1))
  per : ∀ i, f (i + n) = f i
def Cyc (p : Nat) (os : List Od) (l : List (Nat × Nat)) : Prop := ∃ f n, CycF p os l f n
section
variable {p : Nat} {os : List Od} {l l' : List (Nat × Nat)} {f g : Nat → Nat × Nat} {n m : Nat}
theorem CycF.len (c : CycF p os l f n) : l.length = n := by rw [c.eq, List.length_map, List.length_range]
theorem CycF.get (c : CycF p os l f n) {i : Nat} (h : i < n) : l[i]? = some (f i) := by rw [c.eq, List.getElem?_map, List.getElem?_range h]; rfl
theorem CycF.perk (c : CycF p os l f n) (i : Nat) : ∀ k, f (i + n * k) = f i
  | 0 => rfl
  | k + 1 => by
    rw [Nat.mul_succ, ← Nat.add_assoc, c.per]
    exact c.perk i k
theorem CycF.mod (c : CycF p os l f n) (i : Nat) : f (i % n) = f i := by
  have h := c.perk (i % n) (i / n)
  rw [Nat.mod_add_div] at h
  exact h.symm
theorem CycF.mem (c : CycF p os l f n) {x : Nat × Nat} : x ∈ l ↔ ∃ i, x = f i := by
  rw [c.eq, List.mem_map]
  constructor
  · rintro ⟨i, _, rfl⟩
    exact ⟨i, rfl⟩
  · rintro ⟨i, rfl⟩
    exact ⟨i % n, List.mem_range.mpr (Nat.mod_lt _ c.n0), c.mod i⟩
theorem CycF.inj (c : CycF p os l f n) {i j : Nat} (hi : i < n) (hj : j < n) (e : f i = f j) : i = j := by
  have a := c.get hi
  have b := c.get hj
  rw [← e] at b
  exact (List.getElem?_inj (by rw [c.len]; exact hi) c.nd).mp (a.trans b.symm)
theorem CycF.place (c : CycF p os l f n) (i : Nat) : plc p (f i) = f i := by
  have h := c.nx (i + (n - 1))
  have n0 := c.n0
  rw [show i + (n - 1) + 1 = i + n by omega, c.per] at h
  unfold pst at h
  obtain ⟨t, _, e⟩ := Option.map_eq_some_iff.mp h
  rw [← e]
  exact plc_plc t
theorem CycF.steps (c : CycF p os l f n) (i : Nat) : ∀ k, pst p os k (f i) = some (f (i + k))
  | 0 => by rw [pst_zero, c.place]; rfl
  | k + 1 => by
    rw [pst_add, c.steps i k]
    exact c.nx (i + k)
/-- the rest of both, from a shared place -/
theorem CycF.along (c : CycF p os l f n) (d : CycF p os l' g m) {i j : Nat} (e : f i = g j) (k : Nat) : f (i + k) = g (j + k) := by
  have a := c.steps i k
  rw [e, d.steps j k] at a
  exact (Option.some.inj a).symm
theorem CycF.le_of (c : CycF p os l f n) (d : CycF p os l' g m) {i j : Nat} (e : f i = g j) : n ≤ m := by
  refine Nat.le_of_not_lt fun lt => ?_
  have h := c.along d e m
  rw [d.per, ← e, ← c.mod (i + m), ← c.mod i] at h
  have n0 := c.n0
  have m0 := d.n0
  have := c.inj (Nat.mod_lt _ n0) (Nat.mod_lt _ n0) h
  have e2 : (i + m) % n = (i % n + m) % n := by rw [Nat.mod_add_mod]
  rw [e2] at this
  have hi := Nat.mod_lt i n0
  by_cases z : i % n + m < n
  · rw [Nat.mod_eq_of_lt z] at this
    omega
  · rw [Nat.mod_eq_sub_mod (by omega), Nat.mod_eq_of_lt (by omega)] at this
    omega
theorem CycF.same_len (c : CycF p os l f n) (d : CycF p os l' g m) {i j : Nat} (e : f i = g j) : n = m := Nat.le_antisymm (c.le_of d e) (d.le_of c e.symm)
theorem CycF.sub (c : CycF p os l f n) (d : CycF p os l' g m) {i j : Nat} (e : f i = g j) {x : Nat × Nat} (hx : x ∈ l) : x ∈ l' := by
  obtain ⟨k, rfl⟩ := c.mem.mp hx
  have h := c.along d e (k + (n * (i + 1) - i))
  have n0 := c.n0
  have hge : i ≤ n * (i + 1) := Nat.le_trans (Nat.le_succ i) (Nat.le_mul_of_pos_left _ n0)
  rw [show i + (k + (n * (i + 1) - i)) = k + n * (i + 1) by omega, c.perk] at h
  rw [h]
  exact d.mem.mpr ⟨_, rfl⟩
theorem CycF.eq_of_head (c : CycF p os l f n) (d : CycF p os l' g m) (e : f 0 = g 0) : l = l' := by
  obtain rfl := c.same_len d e
  rw [c.eq, d.eq]
  refine List.map_congr_left fun i _ => ?_
  have := c.along d e i
  rw [Nat.zero_add] at this
  exact this
theorem CycF.turn (c : CycF p os l f n) : CycF p os (l.drop 1 ++ l.take 1) (fun i => f (i + 1)) n := by
  have n0 := c.n0
  have hl : l.drop 1 ++ l.take 1 = (List.range n).map fun i => f (i + 1) := by
    obtain ⟨k, rfl⟩ : ∃ k, n = k + 1 := ⟨n - 1, by omega⟩
    have e1 : l = f 0 :: (List.range k).map fun i => f (i + 1) := by
      rw [c.eq, List.range_succ_eq_map, List.map_cons, List.map_map]
      rfl
    rw [e1, List.range_succ, List.map_append]
    show (List.range k).map _ ++ [f 0] = _
    have := c.per 0
    rw [Nat.zero_add] at this
    rw [← this]
    rfl
  refine ⟨n0, hl, ?_, fun i => c.nx (i + 1), fun i => ?_⟩
  · refine List.Perm.nodup (l := l) ?_ c.nd
    have h := List.perm_append_comm (l₁ := l.take 1) (l₂ := l.drop 1)
    rw [List.take_append_drop] at h
    exact h
  · show f (i + n + 1) = f (i + 1)
    rw [show i + n + 1 = (i + 1) + n by omega, c.per]
end
/-- stops, one before the other -/
def ltS (s t : Nat × Nat) : Bool := if s.1 = t.1 then decide (s.2 < t.2) else decide (s.1 < t.1)
theorem ltS_iff {s t : Nat × Nat} : ltS s t = true ↔ s.1 < t.1 ∨ (s.1 = t.1 ∧ s.2 < t.2) := by
  unfold ltS
  split
  · rename_i h
    rw [decide_eq_true_iff]
    omega
  · rename_i h
    rw [decide_eq_true_iff]
    omega
theorem ltS_no {s t : Nat × Nat} : ltS s t = false ↔ ¬ (s.1 < t.1 ∨ (s.1 = t.1 ∧ s.2 < t.2)) := by
  rw [← ltS_iff]
  cases ltS s t <;> simp
theorem ltS_anti {s t : Nat × Nat} (h1 : ltS s t = false) (h2 : ltS t s = false) : s = t := by
  have a := ltS_no.mp h1
  have b := ltS_no.mp h2
  exact Prod.ext (by omega) (by omega)
theorem ltS_trans {s t u : Nat × Nat} (h1 : ltS s t = true) (h2 : ltS t u = true) : ltS s u = true := by
  have a := ltS_iff.mp h1
  have b := ltS_iff.mp h2
  exact ltS_iff.mpr (by omega)
/-- the least stop -/
def minS (x : Nat × Nat) (xs : List (Nat × Nat)) : Nat × Nat := xs.foldl (fun a y => if ltS y a then y else a) x
theorem minS_spec : ∀ (xs : List (Nat × Nat)) (x : Nat × Nat), minS x xs ∈ x :: xs ∧ ∀ y ∈ x :: xs, ltS y (minS x xs) = false
  | [], x => ⟨List.mem_cons_self, fun y hy => by
      rw [List.mem_singleton.mp hy]
      exact ltS_no.mpr (by show ¬ (x.1 < x.1 ∨ (x.1 = x.1 ∧ x.2 < x.2)); omega)⟩
  | z :: r, x => by
    show minS (if ltS z x then z else x) r ∈ _ ∧ ∀ y ∈ _, ltS y (minS (if ltS z x then z else x) r) = false
    obtain ⟨h1, h2⟩ := minS_spec r (if ltS z x then z else x)
    generalize hw : (if ltS z x then z else x) = w at h1 h2
    have hwm : w = z ∨ w = x := by
      rw [← hw]
      split
      · exact .inl rfl
      · exact .inr rfl
    have hwl : ltS z w = false ∧ ltS x w = false := by
      by_cases c : ltS z x = true
      · rw [if_pos c] at hw
        subst hw
        have := ltS_iff.mp c
        exact ⟨ltS_no.mpr (by omega), ltS_no.mpr (by omega)⟩
      · rw [if_neg c] at hw
        subst hw
        exact ⟨Bool.eq_false_iff.mpr c, ltS_no.mpr (by omega)⟩
    refine ⟨?_, fun y hy => ?_⟩
    · rcases List.mem_cons.mp h1 with e | e
      · rw [e]
        rcases hwm with e | e <;> rw [e] <;> simp
      · exact List.mem_cons_of_mem _ (List.mem_cons_of_mem _ e)
    · have key : ∀ u, ltS u w = false → ltS u (minS w r) = false := fun u hu => by
        have a := ltS_no.mp hu
        have b := ltS_no.mp (h2 w List.mem_cons_self)
        exact ltS_no.mpr (by omega)
      rcases List.mem_cons.mp hy with e | e
      · rw [e]
        exact key x hwl.2
      · rcases List.mem_cons.mp e with e | e
        · rw [e]
          exact key z hwl.1
        · exact h2 y (List.mem_cons_of_mem _ e)
/-- a list that begins with its least stop -/
def hm : List (Nat × Nat) → Bool
  | [] => false
  | x :: xs => decide (x = minS x xs)
theorem hm_iff {x : Nat × Nat} {xs : List (Nat × Nat)} : hm (x :: xs) = true ↔ ∀ y ∈ x :: xs, ltS y x = false := by
  unfold hm
  rw [decide_eq_true_iff]
  obtain ⟨h1, h2⟩ := minS_spec xs x
  constructor
  · intro e
    rw [← e] at h2
    exact h2
  · intro h
    exact ltS_anti (h2 x List.mem_cons_self) (h _ h1)
section
variable {p : Nat} {os : List Od} {l l' : List (Nat × Nat)}
theorem Cyc.cons (c : Cyc p os l) : ∃ x xs, l = x :: xs := by
  obtain ⟨f, n, c⟩ := c
  cases l with
  | nil =>
    have a := c.len
    have b := c.n0
    simp at a
    omega
  | cons x xs => exact ⟨x, xs, rfl⟩
/-- loops that share a stop and begin with their least are the same -/
theorem Cyc.uniq (c : Cyc p os l) (d : Cyc p os l') (h : hm l = true) (h' : hm l' = true) {x : Nat × Nat} (hx : x ∈ l) (hx' : x ∈ l') : l = l' := by
  obtain ⟨f, n, c⟩ := c
  obtain ⟨g, m, d⟩ := d
  obtain ⟨i, rfl⟩ := c.mem.mp hx
  obtain ⟨j, e⟩ := d.mem.mp hx'
  have hf : l[0]? = some (f 0) := c.get c.n0
  have hg : l'[0]? = some (g 0) := d.get d.n0
  have m1 : f 0 ∈ l' := c.sub d e (List.mem_of_getElem? hf)
  have m2 : g 0 ∈ l := d.sub c e.symm (List.mem_of_getElem? hg)
  refine c.eq_of_head d ?_
  cases l with
  | nil => cases hf
  | cons x xs =>
    cases l' with
    | nil => cases hg
    | cons y ys =>
      obtain rfl : x = f 0 := Option.some.inj hf
      obtain rfl : y = g 0 := Option.some.inj hg
      exact ltS_anti (hm_iff.mp h' _ m1) (hm_iff.mp h _ m2)
theorem Cyc.turn (c : Cyc p os l) : Cyc p os (l.drop 1 ++ l.take 1) := by
  obtain ⟨f, n, c⟩ := c
  exact ⟨_, _, c.turn⟩
theorem turn_mem {x : Nat × Nat} : x ∈ l.drop 1 ++ l.take 1 ↔ x ∈ l := by
  have h := List.perm_append_comm (l₁ := l.take 1) (l₂ := l.drop 1)
  rw [List.take_append_drop] at h
  exact h.mem_iff.symm
end
/-! ### the loops of a net: plain mathematics -/
theorem pst_house {p h : Nat} {os : List Od} {st : Nat × Nat} (ok : NetOk p h os) (hh : st.1 < h) : ∀ (i : Nat) {s : Nat × Nat}, stp p os i st = some s → s.1 < h
  | 0, s, e => by
    cases e
    exact hh
  | i + 1, s, e => by
    obtain ⟨c, hc, e⟩ := Option.bind_eq_some_iff.mp (show (stp p os i st).bind (hop p os) = some s from e)
    exact hop_house ok e
theorem pst_get {p i : Nat} {os : List Od} {st s : Nat × Nat} (e : stp p os i st = some s) : pst p os i st = some (plc p s) := by
  unfold pst
  rw [e]
  rfl
theorem pst_next {p i : Nat} {os : List Od} {st s t : Nat × Nat} (e : stp p os i st = some s) (e2 : stp p os (i + 1) st = some t) : pst p os 1 (plc p s) = some (plc p t) := by
  have h := pst_add (p := p) (os := os) (i := i) (j := 1) st
  rw [pst_get e, pst_get e2] at h
  exact h.symm
/-- what a letter that chases goes through again and again, from where it comes back to -/
def rawOf (p h : Nat) (os : List Od) (q : Nat × Nat) : Option (List (Nat × Nat)) := match (folR p h os q).2 with
  | none => none
  | some b => some (((folR p h os q).1.dropLast.drop b).map (plc p))
/-- the loop of a letter that comes back to its first stop -/
def lpOf (p h : Nat) (os : List Od) (q : Nat × Nat) : Option (List (Nat × Nat)) := match (folR p h os q).2 with
  | some 0 => some ((folR p h os q).1.dropLast.map (plc p))
  | _ => none
theorem raw_cycF {p h : Nat} {os : List Od} {q : Nat × Nat} {l : List (Nat × Nat)} (ok : NetOk p h os) (hh : q.1 < h) (e : rawOf p h os q = some l) : Cyc p os l ∧ (∀ x ∈ l, x.1 < h) ∧
    ∃ m s b, folR p h os q = (m ++ [s], some b) ∧ l = (m.drop b).map (plc p) ∧ plc p s ∈ l ∧ b < m.length ∧ ∀ x xs, l = x :: xs → ∃ t, m[b]? = some t ∧ x = plc p t := by
  rcases folR_cases ok hh with ⟨l', e', _⟩ | ⟨m, s, b, t, k, e', hl, hb, hs, hk, nd⟩
  · unfold rawOf at e
    rw [e'] at e
    cases e
  · unfold rawOf at e
    rw [e'] at e
    simp only [List.dropLast_concat] at e
    obtain rfl := Option.some.inj e
    have hbl : b < m.length := (List.getElem?_eq_some_iff.mp hb).1
    have hget : ∀ i, i < m.length → ∃ c, m[i]? = some c ∧ stp p os i q = some c := fun i hi => by
      have a := hl i (Nat.le_of_lt hi)
      rw [List.getElem?_append_left hi] at a
      exact ⟨m[i], List.getElem?_eq_getElem hi, a.symm.trans (List.getElem?_eq_getElem hi)⟩
    have hgs : stp p os m.length q = some s := by
      have a := hl m.length (Nat.le_refl _)
      rw [List.getElem?_append_right (Nat.le_refl _), Nat.sub_self] at a
      exact a.symm
    have hst : plc p s = plc p t := by rw [hs, plc_shf]
    have n0 : 0 < m.length - b := by omega
    let f : Nat → Nat × Nat := fun i => plc p (m.getD (b + i % (m.length - b)) (0, 0))
    have hf : ∀ i, i < m.length - b → ∃ c, m[b + i]? = some c ∧ stp p os (b + i) q = some c ∧ f i = plc p c := fun i hi => by
      obtain ⟨c, h1, h2⟩ := hget (b + i) (by omega)
      refine ⟨c, h1, h2, ?_⟩
      show plc p (m.getD (b + i % (m.length - b)) (0, 0)) = _
      rw [Nat.mod_eq_of_lt hi, List.getD_eq_getElem?_getD, h1]
      rfl
    have per : ∀ i, f (i + (m.length - b)) = f i := fun i => by
      show plc p (m.getD (b + (i + (m.length - b)) % (m.length - b)) (0, 0)) = _
      rw [Nat.add_mod_right]
    have modf : ∀ i, f (i % (m.length - b)) = f i := fun i => by
      show plc p (m.getD (b + (i % (m.length - b)) % (m.length - b)) (0, 0)) = _
      rw [Nat.mod_mod]
    have eql : (m.drop b).map (plc p) = (List.range (m.length - b)).map f := by
      refine List.ext_getElem? fun i => ?_
      rw [List.getElem?_map, List.getElem?_drop, List.getElem?_map]
      by_cases hi : i < m.length - b
      · obtain ⟨c, h1, _, h3⟩ := hf i hi
        rw [h1, List.getElem?_range hi]
        show some (plc p c) = some (f i)
        rw [h3]
      · rw [List.getElem?_eq_none (by omega), List.getElem?_eq_none (by rw [List.length_range]; omega)]
        rfl
    have nx : ∀ i, pst p os 1 (f i) = some (f (i + 1)) := fun i => by
      have hi := Nat.mod_lt i n0
      obtain ⟨c, h1, h2, h3⟩ := hf _ hi
      rw [← modf i, h3]
      by_cases z : i % (m.length - b) + 1 < m.length - b
      · obtain ⟨c', _, g2, g3⟩ := hf _ z
        have e1 : f (i + 1) = f (i % (m.length - b) + 1) := by rw [← modf (i + 1), ← modf (i % (m.length - b) + 1), Nat.mod_add_mod]
        rw [e1, g3]
        exact pst_next h2 g2
      · have e1 : f (i + 1) = f 0 := by
          rw [← modf (i + 1), ← Nat.mod_add_mod, show i % (m.length - b) + 1 = m.length - b by omega, Nat.mod_self]
        obtain ⟨c', k1, _, k3⟩ := hf 0 n0
        rw [Nat.add_zero] at k1
        obtain rfl : t = c' := Option.some.inj (hb.symm.trans k1)
        rw [e1, k3, ← hst]
        refine pst_next h2 ?_
        rw [show b + i % (m.length - b) + 1 = m.length by omega]
        exact hgs
    have nd2 : ((m.drop b).map (plc p)).Nodup := by
      rw [List.map_drop]
      exact nd.sublist (List.drop_sublist _ _)
    refine ⟨⟨f, _, n0, eql, nd2, nx, per⟩, fun x hx => ?_, m, s, b, e', rfl, ?_, hbl, fun x xs ex => ?_⟩
    · obtain ⟨c, hc, rfl⟩ := List.mem_map.mp hx
      obtain ⟨i, hi⟩ := List.getElem?_of_mem (List.mem_of_mem_drop hc)
      obtain ⟨c', k1, k2⟩ := hget i (List.getElem?_eq_some_iff.mp hi).1
      obtain rfl : c' = c := Option.some.inj (k1.symm.trans hi)
      exact (show c'.1 < h from pst_house ok hh i k2)
    · rw [hst]
      refine List.mem_map.mpr ⟨t, List.mem_of_getElem? (i := 0) ?_, rfl⟩
      rw [List.getElem?_drop]
      exact hb
    · have h0 : ((m.drop b).map (plc p))[0]? = some x := by rw [ex]; rfl
      rw [List.getElem?_map, List.getElem?_drop, Nat.add_zero, hb] at h0
      exact ⟨t, hb, (Option.some.inj h0).symm⟩
theorem lp_raw {p h : Nat} {os : List Od} {q : Nat × Nat} {l : List (Nat × Nat)} (e : lpOf p h os q = some l) : rawOf p h os q = some l := by
  unfold lpOf at e
  unfold rawOf
  split at e
  · rename_i h2
    rw [h2]
    exact e
  · cases e
theorem lp_cyc {p h : Nat} {os : List Od} {q : Nat × Nat} {l : List (Nat × Nat)} (ok : NetOk p h os) (hh : q.1 < h) (e : lpOf p h os q = some l) : Cyc p os l ∧ (∀ x ∈ l, x.1 < h) ∧ ∃ xs, l = plc p q :: xs := by
  obtain ⟨c, hx, m, s, b, e1, e2, _, hb, hd⟩ := raw_cycF ok hh (lp_raw e)
  refine ⟨c, hx, ?_⟩
  obtain ⟨x, xs, rfl⟩ := c.cons
  refine ⟨xs, ?_⟩
  obtain ⟨t, ht, rfl⟩ := hd x xs rfl
  unfold lpOf at e
  rw [e1] at e
  have b0 : b = 0 := by
    cases b with
    | zero => rfl
    | succ n => cases e
  subst b0
  have : (way p os (h * p + 1) q)[0]? = some q := by
    rw [show way p os (h * p + 1) q = rest p os (h * p + 1) (some q) from rfl, rest_succ]
    rfl
  rcases folR_cases ok hh with ⟨l', e', _⟩ | ⟨m', s', b', t', k, e', hl, _⟩
  · rw [e1] at e'
    cases e'
  · rw [e1] at e'
    have e5 := (Prod.mk.inj e').1
    have h0 := hl 0 (Nat.zero_le _)
    rw [← e5, List.getElem?_append_left hb, ht] at h0
    obtain rfl : t = q := Option.some.inj h0
    rfl
/-- a letter that is posted on a loop comes back to its first stop -/
theorem cyc_lp {p h n : Nat} {os : List Od} {l : List (Nat × Nat)} {f : Nat → Nat × Nat} (ok : NetOk p h os) (c : CycF p os l f n) (hq : (f 0).1 < h) : lpOf p h os (f 0) = some l ∧ (folR p h os (f 0)).2 = some 0 := by
  have st : ∀ i, ∃ s, stp p os i (f 0) = some s ∧ plc p s = f i := fun i => by
    have h1 := c.steps 0 i
    rw [Nat.zero_add] at h1
    exact Option.map_eq_some_iff.mp h1
  rcases folR_cases ok hq with ⟨l', _, _, hl, _⟩ | ⟨m, s, b, t, k, e', hl, hb, hs, hk, nd⟩
  · obtain ⟨s, h1, _⟩ := st l'.length
    rw [← hl, List.getElem?_eq_none (Nat.le_refl _)] at h1
    cases h1
  · have hbl : b < m.length := (List.getElem?_eq_some_iff.mp hb).1
    have n0 := c.n0
    have hmf : m.map (plc p) = (List.range m.length).map f := by
      refine List.ext_getElem? fun i => ?_
      rw [List.getElem?_map, List.getElem?_map]
      by_cases hi : i < m.length
      · have a := hl i (Nat.le_of_lt hi)
        rw [List.getElem?_append_left hi] at a
        obtain ⟨s', h1, h2⟩ := st i
        rw [a, h1, List.getElem?_range hi]
        show some (plc p s') = some (f i)
        rw [h2]
      · rw [List.getElem?_eq_none (by omega), List.getElem?_eq_none (by rw [List.length_range]; omega)]
        rfl
    have fs : f m.length = f b := by
      have a := hl m.length (Nat.le_refl _)
      rw [List.getElem?_append_right (Nat.le_refl _), Nat.sub_self] at a
      obtain ⟨s', h1, h2⟩ := st m.length
      have e1 : s = s' := Option.some.inj (a.trans h1)
      have a2 := hl b (Nat.le_of_lt hbl)
      rw [List.getElem?_append_left hbl, hb] at a2
      obtain ⟨t', h3, h4⟩ := st b
      have e2 : t = t' := Option.some.inj (a2.trans h3)
      rw [← h2, ← h4, ← e1, ← e2, hs, plc_shf]
    have hle : m.length ≤ n := by
      refine Nat.le_of_not_lt fun lt => ?_
      have a1 : (m.map (plc p))[n]? = some (f n) := by rw [hmf, List.getElem?_map, List.getElem?_range lt]; rfl
      have a2 : (m.map (plc p))[0]? = some (f 0) := by rw [hmf, List.getElem?_map, List.getElem?_range (by omega)]; rfl
      have p0 := c.per 0
      rw [Nat.zero_add] at p0
      rw [p0] at a1
      have := (List.getElem?_inj (by rw [List.length_map]; exact lt) nd).mp (a1.trans a2.symm)
      omega
    have hln : m.length = n := by
      refine Nat.le_antisymm hle (Nat.le_of_not_lt fun lt => ?_)
      have := c.inj lt (by omega) fs
      omega
    have b0 : b = 0 := by
      have p0 := c.per 0
      rw [Nat.zero_add, ← hln] at p0
      rw [p0] at fs
      exact (c.inj n0 (by omega) fs).symm
    subst b0
    unfold lpOf
    rw [e']
    refine ⟨?_, rfl⟩
    show some ((m ++ [s]).dropLast.map (plc p)) = _
    rw [List.dropLast_concat, hmf, hln, ← c.eq]
/-- the loop's turn that begins with its least stop -/
def canon (p h : Nat) (os : List Od) (l : List (Nat × Nat)) : List (Nat × Nat) := (lpOf p h os (minS (l.headD (0, 0)) l.tail)).getD []
theorem CycF.turns {p n : Nat} {os : List Od} {l : List (Nat × Nat)} {f : Nat → Nat × Nat} (c : CycF p os l f n) : ∀ i, ∃ l', CycF p os l' (fun j => f (i + j)) n ∧ ∀ x, x ∈ l' ↔ x ∈ l
  | 0 => ⟨l, by simpa using c, fun _ => Iff.rfl⟩
  | i + 1 => by
    obtain ⟨l', c', h'⟩ := c.turns i
    refine ⟨_, ?_, fun x => turn_mem.trans (h' x)⟩
    have := c'.turn
    have e : (fun j => f (i + (j + 1))) = fun j => f (i + 1 + j) := funext fun j => by rw [show i + (j + 1) = i + 1 + j by omega]
    rw [e] at this
    exact this
theorem canon_spec {p h : Nat} {os : List Od} {l : List (Nat × Nat)} (ok : NetOk p h os) (c : Cyc p os l) (hl : ∀ x ∈ l, x.1 < h) :
    Cyc p os (canon p h os l) ∧ hm (canon p h os l) = true ∧ (∀ x, x ∈ canon p h os l ↔ x ∈ l) ∧ ∃ q xs, canon p h os l = q :: xs ∧ lpOf p h os q = some (canon p h os l) ∧ plc p q = q ∧ q.1 < h := by
  obtain ⟨x, xs, rfl⟩ := c.cons
  obtain ⟨f, n, c⟩ := c
  obtain ⟨h1, h2⟩ := minS_spec xs x
  obtain ⟨i, ei⟩ := c.mem.mp h1
  obtain ⟨l', c', hm'⟩ := c.turns i
  have hq : (f (i + 0)).1 < h := by
    rw [Nat.add_zero, ← ei]
    exact hl _ h1
  obtain ⟨g1, _⟩ := cyc_lp ok c' hq
  have ec : canon p h os (x :: xs) = l' := by
    show (lpOf p h os (minS x xs)).getD [] = l'
    rw [ei]
    show (lpOf p h os (f i)).getD [] = l'
    rw [show f i = f (i + 0) from rfl, g1]
    rfl
  rw [ec]
  have h0 : l'[0]? = some (f (i + 0)) := c'.get c'.n0
  obtain ⟨y, ys, rfl⟩ := Cyc.cons ⟨_, _, c'⟩
  obtain rfl : y = f (i + 0) := Option.some.inj h0
  refine ⟨⟨_, _, c'⟩, hm_iff.mpr fun z hz => ?_, hm', _, _, rfl, g1, c.place _, hq⟩
  show ltS z (f i) = false
  rw [← ei]
  exact h2 z ((hm' z).mp hz)
theorem canon_eq {p h : Nat} {os : List Od} {l l' : List (Nat × Nat)} (ok : NetOk p h os) (c : Cyc p os l) (hl : ∀ x ∈ l, x.1 < h) (c' : Cyc p os l') (hm' : hm l' = true) {x : Nat × Nat} (hx : x ∈ l) (hx' : x ∈ l') : canon p h os l = l' := by
  obtain ⟨a1, a2, a3, _⟩ := canon_spec ok c hl
  exact a1.uniq c' a2 hm' ((a3 x).mpr hx) hx'
/-- all letters of a period -/
def lets (p h : Nat) : List (Nat × Nat) := (List.range h).flatMap fun a => (List.range p).map fun d => (a, d)
theorem mem_lets {p h : Nat} {q : Nat × Nat} : q ∈ lets p h ↔ q.1 < h ∧ q.2 < p := by
  unfold lets
  rw [List.mem_flatMap]
  constructor
  · rintro ⟨a, ha, hq⟩
    obtain ⟨d, hd, rfl⟩ := List.mem_map.mp hq
    exact ⟨List.mem_range.mp ha, List.mem_range.mp hd⟩
  · rintro ⟨h1, h2⟩
    exact ⟨q.1, List.mem_range.mpr h1, List.mem_map.mpr ⟨q.2, List.mem_range.mpr h2, rfl⟩⟩
theorem lets_pw {p h : Nat} : (lets p h).Pairwise fun a b => ltS a b = true := by
  unfold lets
  rw [List.pairwise_flatMap]
  refine ⟨fun a _ => ?_, ?_⟩
  · rw [List.pairwise_map]
    exact List.pairwise_lt_range.imp (R := fun x y => x < y) (S := fun d e => ltS (a, d) (a, e) = true) fun {d e} q => ltS_iff.mpr (.inr ⟨rfl, q⟩)
  · refine List.pairwise_lt_range.imp fun {a b} q => ?_
    intro x hx y hy
    obtain ⟨_, _, rfl⟩ := List.mem_map.mp hx
    obtain ⟨_, _, rfl⟩ := List.mem_map.mp hy
    exact ltS_iff.mpr (.inl q)
theorem lets_plc {p h : Nat} {q : Nat × Nat} (hq : q ∈ lets p h) : plc p q = q := by
  obtain ⟨_, h2⟩ := mem_lets.mp hq
  unfold plc
  rw [Nat.mod_eq_of_lt h2]
theorem lets_len {p h : Nat} : (lets p h).length = h * p := by
  unfold lets
  rw [List.length_flatMap]
  simp only [List.length_map, List.length_range]
  induction h with
  | zero => simp
  | succ h ih => rw [List.range_succ, List.map_append, List.sum_append, ih, Nat.succ_mul]; simp
/-- the loop that a letter's least stop begins -/
def goodL (p h : Nat) (os : List Od) (q : Nat × Nat) : Option (List (Nat × Nat)) := match lpOf p h os q with
  | some l => if hm l = true then some l else none
  | none => none
def loopsN (p h : Nat) (os : List Od) : List (List (Nat × Nat)) := (lets p h).filterMap (goodL p h os)
theorem goodL_some {p h : Nat} {os : List Od} {q : Nat × Nat} {l : List (Nat × Nat)} (e : goodL p h os q = some l) : lpOf p h os q = some l ∧ hm l = true := by
  unfold goodL at e
  split at e
  · rename_i l' e'
    split at e
    · rename_i hm'
      obtain rfl := Option.some.inj e
      exact ⟨e', hm'⟩
    · cases e
  · cases e
theorem goodL_of {p h : Nat} {os : List Od} {q : Nat × Nat} {l : List (Nat × Nat)} (e : lpOf p h os q = some l) (hm' : hm l = true) : goodL p h os q = some l := by
  unfold goodL
  rw [e]
  exact if_pos hm'
theorem mem_loopsN {p h : Nat} {os : List Od} (ok : NetOk p h os) {l : List (Nat × Nat)} : l ∈ loopsN p h os ↔ Cyc p os l ∧ hm l = true ∧ ∀ x ∈ l, x.1 < h := by
  unfold loopsN
  rw [List.mem_filterMap]
  constructor
  · rintro ⟨q, hq, e⟩
    obtain ⟨e1, e2⟩ := goodL_some e
    obtain ⟨c, hx, _⟩ := lp_cyc ok (mem_lets.mp hq).1 e1
    exact ⟨c, e2, hx⟩
  · rintro ⟨⟨f, n, c⟩, hm', hx⟩
    have h0 : f 0 ∈ l := c.mem.mpr ⟨0, rfl⟩
    have hp : (f 0).2 < p := by
      have := c.place 0
      have e : (f 0).2 % p = (f 0).2 := congrArg Prod.snd this
      rw [← e]
      exact Nat.mod_lt _ ok.p1
    exact ⟨f 0, mem_lets.mpr ⟨hx _ h0, hp⟩, goodL_of (cyc_lp ok c (hx _ h0)).1 hm'⟩
theorem loopsN_pw {p h : Nat} {os : List Od} (ok : NetOk p h os) : (loopsN p h os).Pairwise fun a b => ltS (a.headD (0, 0)) (b.headD (0, 0)) = true := by
  unfold loopsN
  rw [List.pairwise_filterMap]
  refine List.Pairwise.imp_of_mem ?_ (lets_pw (p := p) (h := h))
  intro a b ha hb q l el l' el'
  obtain ⟨_, _, xs, rfl⟩ := lp_cyc ok (mem_lets.mp ha).1 (goodL_some el).1
  obtain ⟨_, _, ys, rfl⟩ := lp_cyc ok (mem_lets.mp hb).1 (goodL_some el').1
  show ltS (plc p a) (plc p b) = true
  rw [lets_plc ha, lets_plc hb]
  exact q
theorem loopsN_nd {p h : Nat} {os : List Od} (ok : NetOk p h os) : (loopsN p h os).Nodup := (loopsN_pw ok).imp fun {a b} q e => by
  subst e
  have := ltS_iff.mp q
  omega
/-- what the law finds, letter by letter -/
def fndF (p h : Nat) (os : List Od) (acc : List (List (Nat × Nat))) (q : Nat × Nat) : List (List (Nat × Nat)) := match rawOf p h os q with
  | none => acc
  | some l => if canon p h os l ∈ acc then acc else acc ++ [canon p h os l]
def fnd (p h : Nat) (os : List Od) (qs : List (Nat × Nat)) : List (List (Nat × Nat)) := qs.foldl (fndF p h os) []
theorem fnd_snoc {p h : Nat} {os : List Od} {qs : List (Nat × Nat)} {q : Nat × Nat} : fnd p h os (qs ++ [q]) = fndF p h os (fnd p h os qs) q := by
  unfold fnd
  rw [List.foldl_append]
  rfl
theorem fndF_mem {p h : Nat} {os : List Od} {acc : List (List (Nat × Nat))} {q : Nat × Nat} {l : List (Nat × Nat)} : l ∈ fndF p h os acc q ↔ l ∈ acc ∨ ∃ r, rawOf p h os q = some r ∧ canon p h os r = l := by
  unfold fndF
  cases e : rawOf p h os q with
  | none => simp
  | some r =>
    show l ∈ (if canon p h os r ∈ acc then acc else acc ++ [canon p h os r]) ↔ _
    split
    · rename_i hm'
      constructor
      · exact .inl
      · rintro (a | ⟨r', e', rfl⟩)
        · exact a
        · cases e'
          exact hm'
    · rw [List.mem_append, List.mem_singleton]
      constructor
      · rintro (a | a)
        · exact .inl a
        · exact .inr ⟨r, rfl, a.symm⟩
      · rintro (a | ⟨r', e', a⟩)
        · exact .inl a
        · cases e'
          exact .inr a.symm
theorem fndF_nd {p h : Nat} {os : List Od} {acc : List (List (Nat × Nat))} {q : Nat × Nat} (nd : acc.Nodup) : (fndF p h os acc q).Nodup := by
  unfold fndF
  split
  · exact nd
  · rename_i r _
    split
    · exact nd
    · rename_i hno
      rw [List.nodup_append]
      refine ⟨nd, List.nodup_cons.mpr ⟨by simp, List.nodup_nil⟩, fun a ha b hb e => ?_⟩
      rw [List.mem_singleton.mp hb] at e
      exact hno (e ▸ ha)
theorem fnd_spec {p h : Nat} {os : List Od} (qs : List (Nat × Nat)) : ∀ acc : List (List (Nat × Nat)), acc.Nodup → (qs.foldl (fndF p h os) acc).Nodup ∧ ∀ l, l ∈ qs.foldl (fndF p h os) acc ↔ l ∈ acc ∨ ∃ q ∈ qs, ∃ r, rawOf p h os q = some r ∧ canon p h os r = l := by
  induction qs with
  | nil => exact fun acc nd => ⟨nd, fun l => by simp⟩
  | cons q qs ih =>
    intro acc nd
    obtain ⟨h1, h2⟩ := ih (fndF p h os acc q) (fndF_nd nd)
    refine ⟨h1, fun l => ?_⟩
    rw [List.foldl_cons, h2, fndF_mem]
    constructor
    · rintro ((a | a) | ⟨q', hq', a⟩)
      · exact .inl a
      · exact .inr ⟨q, List.mem_cons_self, a⟩
      · exact .inr ⟨q', List.mem_cons_of_mem _ hq', a⟩
    · rintro (a | ⟨q', hq', a⟩)
      · exact .inl (.inl a)
      · rcases List.mem_cons.mp hq' with rfl | z
        · exact .inl (.inr a)
        · exact .inr ⟨q', z, a⟩
theorem fnd_perm {p h : Nat} {os : List Od} (ok : NetOk p h os) : (fnd p h os (lets p h)).Perm (loopsN p h os) := by
  obtain ⟨h1, h2⟩ := fnd_spec (p := p) (h := h) (os := os) (lets p h) [] List.nodup_nil
  refine (List.perm_ext_iff_of_nodup h1 (loopsN_nd ok)).mpr fun l => ?_
  rw [h2]
  constructor
  · rintro (a | ⟨q, hq, r, e, rfl⟩)
    · cases a
    · obtain ⟨c, hx, _⟩ := raw_cycF ok (mem_lets.mp hq).1 e
      obtain ⟨a1, a2, a3, _⟩ := canon_spec ok c hx
      exact (mem_loopsN ok).mpr ⟨a1, a2, fun x hx' => hx x ((a3 x).mp hx')⟩
  · intro hl
    obtain ⟨c, hm', hx⟩ := (mem_loopsN ok).mp hl
    obtain ⟨q, hq, e⟩ := List.mem_filterMap.mp hl
    obtain ⟨x, xs, rfl⟩ := c.cons
    exact .inr ⟨q, hq, _, lp_raw (goodL_some e).1, canon_eq ok c hx c hm' List.mem_cons_self List.mem_cons_self⟩
/-- loops that share a stop are one -/
theorem loopsN_share {p h : Nat} {os : List Od} (ok : NetOk p h os) {l l' : List (Nat × Nat)} {x : Nat × Nat} (hl : l ∈ loopsN p h os) (hl' : l' ∈ loopsN p h os) (hx : x ∈ l) (hx' : x ∈ l') : l = l' := by
  obtain ⟨c, m1, _⟩ := (mem_loopsN ok).mp hl
  obtain ⟨c', m2, _⟩ := (mem_loopsN ok).mp hl'
  exact c.uniq c' m1 m2 hx hx'
abbrev s_letters : Stmt := top 27
abbrev N_letters : List Str := ["net", "house", "day"]
abbrev P_letters : List Str := ["net"]
theorem sc_letters : FnScope N_letters P_letters (defScope s_letters) := ⟨rfl, rfl, rfl, by decide +kernel, rfl, by decide +kernel, by decide +kernel⟩
/-! ### all letters of a period; stops by the days of the period -/
def spLets (C : Addr) : Sp := fun vs H Q _ => ∃ (x t : Addr) (p h : Nat) (os : List Od) (F : List Addr), vs = [.ref x] ∧ NetAt C H x p h os t F ∧ NetOk p h os ∧
  ∀ H' r ws, Same H H' → H r = none → H' r = some (.lst ws) → Paired (StopAt H') ws (lets p h) → Q (.ref r) H'
theorem lets_step {p h i j : Nat} (hi : i < h) (hj : j < p) : ((List.range i).flatMap fun a => (List.range p).map fun d => (a, d)) ++ ((List.range (j + 1)).map fun d => (i, d)) = (((List.range i).flatMap fun a => (List.range p).map fun d => (a, d)) ++ ((List.range j).map fun d => (i, d))) ++ [(i, j)] := by
  rw [List.range_succ, List.map_append, List.append_assoc]
  rfl
theorem lets_row {p i : Nat} : ((List.range (i + 1)).flatMap fun a => (List.range p).map fun d => (a, d)) = ((List.range i).flatMap fun a => (List.range p).map fun d => (a, d)) ++ ((List.range p).map fun d => (i, d)) := by
  rw [List.range_succ, List.flatMap_append]
  simp
theorem rows_len {p i j : Nat} : (((List.range i).flatMap fun a => (List.range p).map fun d => (a, d)) ++ ((List.range j).map fun d => (i, d))).length = i * p + j := by
  rw [List.length_append, List.length_map, List.length_range]
  have := lets_len (p := p) (h := i)
  unfold lets at this
  rw [this]
section
variable {P : Program} {w : World} {K : PySem.W.Frag} {mg : Str → Option Value} {base : Heap}
theorem ok_letters {f C : Addr} {fd : FuncData} (F : Fun K "letters" "letters" s_letters f fd) (B : Blt mg) (T : NetT K C) : FnOk P w K mg base CX0 2 f fd P_letters (spLets C) := by
  refine F.ok sc_letters (fun vs H Q E h => ?_) (fun cdv A outer s H vs Q E hr h => ?_)
  · obtain ⟨x, t, p, h, os, F, rfl, _⟩ := h
    rfl
  · obtain ⟨x, t, p, h, os, F, rfl, Nt, nok, q⟩ := h
    refine ⟨_, pss_one (ps_ret (pe_lc2 (own := [("house", 1), ("day", 2)]) (vs1 := [2]) (g := gName 1) (g1 := gName 2) (tt := tYes) (tt1 := tYes) (wi1 := iRng1 (tCons (tFld K (tVar 0) "period") tNil)) (te := tTup (tCons (tVar 1) (tCons (tVar 2) tNil))) (by rfl) sc_letters.nd (pi_range1 rfl B.range (pa_cons (pe_fld (pv 0) rfl) pa_nil))
          (blkOk_by (N := N_letters) (sc := defScope s_letters) (by decide +kernel)) (by intro i hi; simp at hi; simp [hi]) (fun _ _ _ _ _ => pg_name (i := 1) sc_letters.nd rfl (.inl rfl)) (fun _ _ _ _ _ => pts_nil)
          (fun _ _ _ _ _ => pi_range1 rfl B.range (pa_cons (pe_fld (pv 0) rfl) pa_nil)) (fun _ _ _ _ _ => pg_name (i := 2) sc_letters.nd rfl (.inl rfl)) (fun _ _ _ _ _ => pts_nil) (fun _ _ _ _ _ => pe_tup (pa_cons (pv 1) (pa_cons (pv 2) pa_nil))))), ?_⟩
    have p30 := nok.p30; have h10 := nok.h10
    obtain ⟨dx, fl, as, _, hx, _⟩ := id Nt
    have big : h * p ≤ 300 := Nat.mul_le_mul h10 p30
    refine ⟨_, rfl, x, C, dx, _, _, rfl, hx, T.cl, T.nH, nf_ho, (h : Int), rfl, by omega, by omega, fun D nD => ?_⟩
    have nDF := Nt.new nD
    refine lc2_rng (lo := 0) (n := (h : Int).toNat) (fun i H' => ∃ ws, NetAt C H' x p h os t F ∧ Same H H' ∧ H' D = some (.lst ws) ∧ Paired (StopAt H') ws ((List.range i).flatMap fun a => (List.range p).map fun d => (a, d))) ⟨[], Nt.same (same_upd nD), same_upd nD, upd_same, .nil⟩ ?_ ?_
    · rintro i H1 hi ⟨ws, N1, s1, hD, hw⟩
      have hi2 : i < h := by omega
      obtain ⟨dx1, _, _, _, hx1, _⟩ := id N1
      refine ⟨rfl, _, rfl, x, C, dx1, _, _, rfl, hx1, T.cl, T.nP, nf_pe, (p : Int), rfl, by omega, by omega, ?_⟩
      refine in_rng (lo := 0) (n := (p : Int).toNat) (fun j H' => ∃ ws, NetAt C H' x p h os t F ∧ Same H H' ∧ H' D = some (.lst ws) ∧ Paired (StopAt H') ws (((List.range i).flatMap fun a => (List.range p).map fun d => (a, d)) ++ ((List.range j).map fun d => (i, d)))) ⟨ws, N1, s1, hD, by rw [List.range_zero, List.map_nil, List.append_nil]; exact hw⟩ ?_ ?_
      · rintro j H2 hj ⟨ws, N2, s2, hD2, hw2⟩
        have hj2 : j < p := by omega
        refine ⟨rfl, _, rfl, _, rfl, (by show 2 ≤ sizeLine; decide), fun u nu => ?_⟩
        have s3 := same_upd (o := HO.tup [.int (0 + (i : Int)), .int (0 + (j : Int))]) nu
        have hD3 := s3 _ _ hD2
        have nuD : u ≠ D := (ne_of_none hD2 nu).symm
        refine ⟨ws, hD3, ?_, ?_⟩
        · rw [hw2.length, rows_len]
          have : i * p + p ≤ h * p := by
            rw [← Nat.succ_mul]
            exact Nat.mul_le_mul_right _ hi2
          exact small1000 (by omega)
        · have k := TupKeep.lst (o := HO.lst (ws ++ [.ref u])) hD3
          refine ⟨ws ++ [.ref u], (N2.same s3).but (d := D) .upd k nDF, fun b o e => ?_, upd_same, ?_⟩
          · rw [upd_ne (ne_of_none e nD)]
            exact s3 _ _ (s2 _ _ e)
          · rw [lets_step hi2 hj2]
            refine Paired.snoc (StopsAt.keep (tk_of s3 |>.trans k) hw2) ⟨u, rfl, ?_⟩
            rw [upd_ne nuD, upd_same, Int.zero_add, Int.zero_add]
      · rintro H2 ⟨ws, N2, s2, hD2, hw2⟩
        refine ⟨ws, N2, s2, hD2, ?_⟩
        rw [lets_row]
        exact hw2
    · rintro H1 ⟨ws, N1, s1, hD, hw⟩
      exact q H1 D ws s1 nD hD hw
end
/-! ### pairs as data: their order and their least -/
section
open PySem.W (alike alikeAll dataLt minD AlikeAll)
theorem plD_alike (s t : Nat × Nat) : alike (plD s) (plD t) = true := by
  simp [plD, alike, alikeAll]
theorem plDs_alike (l : List (Nat × Nat)) : AlikeAll (l.map plD) := by
  refine ⟨fun x hx y hy => ?_, fun x hx => ?_⟩
  · obtain ⟨s, _, rfl⟩ := List.mem_map.mp hx
    obtain ⟨t, _, rfl⟩ := List.mem_map.mp hy
    exact plD_alike s t
  · obtain ⟨s, _, rfl⟩ := List.mem_map.mp hx
    intro e
    cases e
theorem int_eqv (a b : Int) : PyData.eqv (.int a) (.int b) = decide (a = b) := by
  by_cases h : a = b <;> simp [PyData.eqv, h]
theorem dataLt_pl (s t : Nat × Nat) : dataLt (plD s) (plD t) = ltS s t := by
  unfold plD ltS
  rw [PySem.W.dataLt_tuple]
  by_cases e1 : s.1 = t.1
  · rw [if_pos e1, PySem.W.dataLt_all_yes (by simp [alike]) (by rw [int_eqv, e1]; exact decide_eq_true rfl)]
    by_cases e2 : s.2 = t.2
    · rw [PySem.W.dataLt_all_yes (by simp [alike]) (by rw [int_eqv, e2]; exact decide_eq_true rfl), e2, decide_eq_false (Nat.lt_irrefl _)]
      simp [PySem.W.keyToksAll, PyProof.Rows.lexLt]
      rfl
    · rw [PySem.W.dataLt_all_no (by simp [alike]) (by rw [int_eqv]; exact decide_eq_false (by omega)), PySem.W.dataLt_int]
      by_cases c : s.2 < t.2
      · rw [decide_eq_true c, decide_eq_true (by omega)]
      · rw [decide_eq_false c, decide_eq_false (by omega)]
  · rw [if_neg e1, PySem.W.dataLt_all_no (by simp [alike]) (by rw [int_eqv]; exact decide_eq_false (by omega)), PySem.W.dataLt_int]
    by_cases c : s.1 < t.1
    · rw [decide_eq_true c, decide_eq_true (by omega)]
    · rw [decide_eq_false c, decide_eq_false (by omega)]
theorem minD_pl : ∀ (xs : List (Nat × Nat)) (x : Nat × Nat), minD (plD x) (xs.map plD) = plD (minS x xs)
  | [], x => rfl
  | y :: ys, x => by
    show minD (if dataLt (plD y) (plD x) = true then plD y else plD x) (ys.map plD) = plD (minS (if ltS y x then y else x) ys)
    rw [dataLt_pl]
    by_cases c : ltS y x = true
    · rw [if_pos c, if_pos c]
      exact minD_pl ys y
    · rw [if_neg c, if_neg c]
      exact minD_pl ys x
theorem plD_inj {s t : Nat × Nat} (e : plD s = plD t) : s = t := by
  have h := plD_eqv s t
  rw [← e] at h
  rw [PySem.SeqAt.eqv_refl _ (PySem.SeqAt.canLay_of_shaped (plD_shaped s))] at h
  exact of_decide_eq_true h.symm
/-- min of a list of stops -/
theorem min_depth (x : Nat × Nat) (xs : List (Nat × Nat)) : PyData.depthAll (plD x :: xs.map plD) ≤ 60 := by
  have := plDs_depth (x :: xs)
  rw [List.map_cons] at this
  omega
theorem min_at {H : Hp} {ws : List V} {x : Nat × Nat} {xs : List (Nat × Nat)} {i : Nat} {v : V} (hw : Paired (StopAt H) ws (x :: xs)) (hi : ws[i]? = some v) (he : (plD x :: xs.map plD)[i]? = some (minD (plD x) (xs.map plD))) : StopAt H v (minS x xs) := by
  have hil : i < (x :: xs).length := by rw [← hw.length]; exact (List.getElem?_eq_some_iff.mp hi).1
  obtain ⟨v', hv', hs⟩ := Paired.get? (i := i) hw (List.getElem?_eq_getElem hil)
  obtain rfl : v' = v := Option.some.inj (hv'.symm.trans hi)
  have e2 : ((x :: xs).map plD)[i]? = some (plD (x :: xs)[i]) := by rw [List.getElem?_map, List.getElem?_eq_getElem hil]; rfl
  rw [List.map_cons, he, minD_pl] at e2
  rw [plD_inj (Option.some.inj e2)]
  exact hs
end
/-! ### where letters are delivered: plain mathematics -/
def dst (p h : Nat) (os : List Od) (st : Nat × Nat) : Option (Nat × Nat) := destOf (folR p h os st)
theorem stp_none_add {p : Nat} {os : List Od} {i : Nat} {st : Nat × Nat} (e : stp p os i st = none) (k : Nat) : stp p os (i + k) st = none := by
  rw [stp_add, e]
  rfl
theorem stp_succ_none {p : Nat} {os : List Od} {j : Nat} {st c : Nat × Nat} (h1 : stp p os j st = some c) (h2 : hop p os c = none) : stp p os (j + 1) st = none := by
  show (stp p os j st).bind (hop p os) = none
  rw [h1]
  exact h2
theorem dst_iff {p h : Nat} {os : List Od} {st c : Nat × Nat} (ok : NetOk p h os) (hh : st.1 < h) : dst p h os st = some c ↔ ∃ j, stp p os j st = some c ∧ hop p os c = none := by
  unfold dst
  rcases folR_cases ok hh with ⟨l, e, hne, hl, _⟩ | ⟨m, s, b, t, k, e, hl, hb, hs, hk, _⟩
  · rw [e]
    show l.getLast? = some c ↔ _
    have hlen : 0 < l.length := List.length_pos_iff.mpr hne
    have hend : stp p os l.length st = none := by
      rw [← hl]
      exact List.getElem?_eq_none_iff.mpr (Nat.le_refl _)
    have hlast : l.getLast? = stp p os (l.length - 1) st := by rw [← hl, List.getLast?_eq_getElem?]
    rw [hlast]
    constructor
    · intro h1
      refine ⟨_, h1, ?_⟩
      have e2 : (stp p os (l.length - 1) st).bind (hop p os) = none := by
        have e1 : stp p os (l.length - 1 + 1) st = none := by rw [Nat.sub_add_cancel hlen]; exact hend
        exact e1
      rw [h1] at e2
      exact e2
    · rintro ⟨j, h1, h2⟩
      have e3 := stp_succ_none h1 h2
      have hj : j < l.length := by
        rcases Nat.lt_or_ge j l.length with z | z
        · exact z
        · have := stp_none_add hend (j - l.length)
          rw [show l.length + (j - l.length) = j by omega, h1] at this
          cases this
      have hj2 : ¬ j + 1 < l.length := fun z => by
        have := hl (j + 1)
        rw [e3, List.getElem?_eq_getElem z] at this
        cases this
      rw [show l.length - 1 = j by omega]
      exact h1
  · rw [e]
    show (none : Option (Nat × Nat)) = some c ↔ _
    constructor
    · intro z
      cases z
    · rintro ⟨j, h1, h2⟩
      exfalso
      have hbl : b < m.length := (List.getElem?_eq_some_iff.mp hb).1
      have g1 : stp p os b st = some t := by
        rw [← hl b (Nat.le_of_lt hbl), List.getElem?_append_left hbl]
        exact hb
      have g2 : stp p os (b + (m.length - b)) st = some (shf (p * k) t) := by
        rw [show b + (m.length - b) = m.length by omega, ← hl _ (Nat.le_refl _), List.getElem?_append_right (Nat.le_refl _), Nat.sub_self, hs]
        rfl
      have hr := stp_round (N := m.length - b) (k0 := k) rfl g1 g2 (j + 1) 0
      have n1 : 1 ≤ m.length - b := by omega
      have n2 : 1 * (j + 1) ≤ (m.length - b) * (j + 1) := Nat.mul_le_mul_right _ n1
      have e3 := stp_none_add (stp_succ_none h1 h2) (b + 0 + (m.length - b) * (j + 1) - (j + 1))
      rw [show j + 1 + (b + 0 + (m.length - b) * (j + 1) - (j + 1)) = b + 0 + (m.length - b) * (j + 1) by omega, hr, show stp p os (b + 0) st = some t from g1] at e3
      cases e3
theorem dst_end {p h : Nat} {os : List Od} {st : Nat × Nat} (ok : NetOk p h os) (hh : st.1 < h) (e : hop p os st = none) : dst p h os st = some st := (dst_iff ok hh).mpr ⟨0, rfl, e⟩
theorem dst_stp {p h : Nat} {os : List Od} {st s : Nat × Nat} {i : Nat} (ok : NetOk p h os) (hh : st.1 < h) (e : stp p os i st = some s) : dst p h os st = dst p h os s := by
  have hs := pst_house ok hh i e
  apply Option.ext
  intro c
  rw [dst_iff ok hh, dst_iff ok hs]
  constructor
  · rintro ⟨j, h1, h2⟩
    by_cases z : i ≤ j
    · refine ⟨j - i, ?_, h2⟩
      rw [show j = i + (j - i) by omega, stp_add, e] at h1
      exact h1
    · have e3 := stp_none_add (stp_succ_none h1 h2) (i - (j + 1))
      rw [show j + 1 + (i - (j + 1)) = i by omega, e] at e3
      cases e3
  · rintro ⟨j, h1, h2⟩
    refine ⟨i + j, ?_, h2⟩
    rw [stp_add, e]
    exact h1
theorem hop_shf_none {p : Nat} {os : List Od} {k : Nat} {s : Nat × Nat} : hop p os (shf (p * k) s) = none ↔ hop p os s = none := by
  rw [hop_shf, Option.map_eq_none_iff]
theorem dst_shf {p h : Nat} {os : List Od} {st : Nat × Nat} {k : Nat} (ok : NetOk p h os) (hh : st.1 < h) : dst p h os (shf (p * k) st) = (dst p h os st).map (shf (p * k)) := by
  apply Option.ext
  intro c
  rw [dst_iff ok (show (shf (p * k) st).1 < h from hh), Option.map_eq_some_iff]
  constructor
  · rintro ⟨j, h1, h2⟩
    rw [stp_shf] at h1
    obtain ⟨c', h3, rfl⟩ := Option.map_eq_some_iff.mp h1
    exact ⟨c', (dst_iff ok hh).mpr ⟨j, h3, hop_shf_none.mp h2⟩, rfl⟩
  · rintro ⟨c', h1, rfl⟩
    obtain ⟨j, h3, h4⟩ := (dst_iff ok hh).mp h1
    exact ⟨j, by rw [stp_shf, h3]; rfl, hop_shf_none.mpr h4⟩
theorem dst_cycle {p h : Nat} {os : List Od} {st : Nat × Nat} {i k : Nat} (ok : NetOk p h os) (hh : st.1 < h) (e : stp p os i st = some (shf (p * k) st)) (hk : 0 < p * k) : dst p h os st = none := by
  have h1 := dst_stp ok hh e
  rw [dst_shf ok hh] at h1
  cases q : dst p h os st with
  | none => rfl
  | some c =>
    rw [q] at h1
    have h2 : c.2 = c.2 + p * k := congrArg Prod.snd (Option.some.inj h1)
    omega
theorem dst_le {p h : Nat} {os : List Od} {st c : Nat × Nat} (ok : NetOk p h os) (hh : st.1 < h) (e : dst p h os st = some c) : st.2 ≤ c.2 := by
  obtain ⟨j, h1, _⟩ := (dst_iff ok hh).mp e
  cases j with
  | zero =>
    cases h1
    exact Nat.le_refl _
  | succ j => exact Nat.le_of_lt (stp_more (i := 0) (k := j) ok rfl (by rw [Nat.zero_add]; exact h1))
theorem dst_house {p h : Nat} {os : List Od} {st c : Nat × Nat} (ok : NetOk p h os) (hh : st.1 < h) (e : dst p h os st = some c) : c.1 < h := by
  obtain ⟨j, h1, _⟩ := (dst_iff ok hh).mp e
  exact pst_house ok hh j h1
theorem dst_plc {p h : Nat} {os : List Od} {st : Nat × Nat} (ok : NetOk p h os) (hh : st.1 < h) : dst p h os st = (dst p h os (plc p st)).map (shf (p * (st.2 / p))) := by
  rw [← dst_shf ok (show (plc p st).1 < h from hh), ← shf_plc]
/-- the goal of a letter, and how many days it takes -/
def wayOf (p h : Nat) (os : List Od) (s : Nat × Nat) : Option (Nat × Nat) := (dst p h os s).map fun g => (g.1, g.2 - s.2)
theorem wayOf_dst {p h : Nat} {os : List Od} {s : Nat × Nat} (ok : NetOk p h os) (hh : s.1 < h) : dst p h os s = (wayOf p h os s).map fun g => (g.1, s.2 + g.2) := by
  unfold wayOf
  rw [Option.map_map]
  cases q : dst p h os s with
  | none => rfl
  | some c =>
    have := dst_le ok hh q
    show some c = some (c.1, s.2 + (c.2 - s.2))
    rw [show s.2 + (c.2 - s.2) = c.2 by omega]
theorem wayOf_plc {p h : Nat} {os : List Od} {s : Nat × Nat} (ok : NetOk p h os) (hh : s.1 < h) : wayOf p h os (plc p s) = wayOf p h os s := by
  unfold wayOf
  rw [dst_plc ok hh, Option.map_map]
  cases q : dst p h os (plc p s) with
  | none => rfl
  | some c =>
    show some (c.1, c.2 - s.2 % p) = some (c.1, c.2 + p * (s.2 / p) - s.2)
    have := Nat.div_add_mod s.2 p
    rw [show c.2 + p * (s.2 / p) - s.2 = c.2 - s.2 % p by omega]
theorem dst_way {p h : Nat} {os : List Od} {s : Nat × Nat} (ok : NetOk p h os) (hh : s.1 < h) : dst p h os s = (wayOf p h os (plc p s)).map fun g => (g.1, s.2 + g.2) := by
  rw [wayOf_plc ok hh]
  exact wayOf_dst ok hh
/-- the table of ways: keys and values -/
def wkv (p : Nat) (ks : List (Nat × Nat)) (f : Nat × Nat → V) : List (List Key × V) := ks.map fun s => (keyOf p s, f s)
def setF (f : Nat × Nat → V) (q : Nat × Nat) (v : V) : Nat × Nat → V := fun s => if s = q then v else f s
theorem key_plc {p : Nat} {s : Nat × Nat} : keyOf p (plc p s) = keyOf p s := keyOf_eq.mpr (plc_plc s)
theorem key_at {p : Nat} {q s : Nat × Nat} (hq : plc p q = q) : keyOf p q = keyOf p s ↔ q = plc p s := by
  rw [keyOf_eq, hq]
theorem wkv_val {p : Nat} {f : Nat × Nat → V} {s : Nat × Nat} : ∀ {ks : List (Nat × Nat)}, (∀ q ∈ ks, plc p q = q) → valV (wkv p ks f) (keyOf p s) = if plc p s ∈ ks then some (f (plc p s)) else none
  | [], _ => rfl
  | q :: ks, h => by
    have hq := h q List.mem_cons_self
    have ih := wkv_val (p := p) (f := f) (s := s) fun r hr => h r (List.mem_cons_of_mem _ hr)
    by_cases c : q = plc p s
    · rw [if_pos (by rw [c]; exact List.mem_cons_self)]
      show valV ((keyOf p q, f q) :: wkv p ks f) (keyOf p s) = _
      rw [valV_pos ((key_at hq).mpr c), c]
    · show valV ((keyOf p q, f q) :: wkv p ks f) (keyOf p s) = _
      rw [valV_neg fun z => c ((key_at hq).mp z), ih]
      by_cases m : plc p s ∈ ks
      · rw [if_pos m, if_pos (List.mem_cons_of_mem _ m)]
      · rw [if_neg m, if_neg fun z => (List.mem_cons.mp z).elim (fun e => c e.symm) m]
theorem wkv_ext {p : Nat} {f g : Nat × Nat → V} {ks : List (Nat × Nat)} (h : ∀ q ∈ ks, f q = g q) : wkv p ks f = wkv p ks g := by
  unfold wkv
  exact List.map_congr_left fun q hq => by rw [h q hq]
theorem wkv_new {p : Nat} {f : Nat × Nat → V} {s : Nat × Nat} {v : V} {ks : List (Nat × Nat)} (h : ∀ q ∈ ks, plc p q = q) (hn : plc p s ∉ ks) : putK (wkv p ks f) (keyOf p s) v = wkv p (ks ++ [plc p s]) (setF f (plc p s) v) := by
  rw [Cp.putK_new (by rw [wkv_val h, if_neg hn])]
  show _ = wkv p (ks ++ [plc p s]) _
  unfold wkv
  rw [List.map_append]
  congr 1
  · exact List.map_congr_left fun q hq => by
      show (keyOf p q, f q) = (keyOf p q, if q = plc p s then v else f q)
      rw [if_neg fun e : q = plc p s => hn (e ▸ hq)]
  · show [(keyOf p s, v)] = [(keyOf p (plc p s), setF f (plc p s) v (plc p s))]
    unfold setF
    rw [if_pos rfl, key_plc]
theorem wkv_old {p : Nat} {f : Nat × Nat → V} {s : Nat × Nat} {v : V} {ks : List (Nat × Nat)} (h : ∀ q ∈ ks, plc p q = q) (hn : plc p s ∈ ks) : putK (wkv p ks f) (keyOf p s) v = wkv p ks (setF f (plc p s) v) := by
  unfold putK
  have e : ((wkv p ks f).any fun kv => decide (kv.1 = keyOf p s)) = true := by
    rw [valV_any, wkv_val h, if_pos hn]
    rfl
  rw [if_pos e]
  unfold wkv
  rw [List.map_map]
  refine List.map_congr_left fun q hq => ?_
  show (if keyOf p q = keyOf p s then (keyOf p q, v) else (keyOf p q, f q)) = (keyOf p q, setF f (plc p s) v q)
  unfold setF
  by_cases c : q = plc p s
  · rw [if_pos ((key_at (h q hq)).mpr c), if_pos c]
  · rw [if_neg fun z => c ((key_at (h q hq)).mp z), if_neg c]
abbrev s_add_ways : Stmt := top 29
abbrev N_add_ways : List Str := ["net", "house", "day", "ways", "trail", "stop", "goal", "arrival", "known", "source", "start"]
abbrev P_add_ways : List Str := ["net", "house", "day", "ways"]
theorem sc_add_ways : FnScope N_add_ways P_add_ways (defScope s_add_ways) := ⟨rfl, rfl, rfl, by decide +kernel, rfl, by decide +kernel, by decide +kernel⟩
abbrev s_find_ways : Stmt := top 28
abbrev N_find_ways : List Str := ["net", "ways", "house", "day"]
abbrev P_find_ways : List Str := ["net"]
theorem sc_find_ways : FnScope N_find_ways P_find_ways (defScope s_find_ways) := ⟨rfl, rfl, rfl, by decide +kernel, rfl, by decide +kernel, by decide +kernel⟩
/-! ### the table of ways -/
structure WaysAt (p h : Nat) (os : List Od) (H : Hp) (d : Addr) (ks : List (Nat × Nat)) (f : Nat × Nat → V) : Prop where
  tab : H d = some (.dT (wkv p ks f))
  nd : ks.Nodup
  ok : ∀ q ∈ ks, q.1 < h ∧ q.2 < p
  ways : ∀ q ∈ ks, OptStop H (f q) (wayOf p h os q)
theorem plc_lt {p : Nat} {q : Nat × Nat} (h : q.2 < p) : plc p q = q := Prod.ext rfl (Nat.mod_eq_of_lt h)
theorem WaysAt.same {p h : Nat} {os : List Od} {H H' : Hp} {d : Addr} {ks : List (Nat × Nat)} {f : Nat × Nat → V} (W : WaysAt p h os H d ks f) (s : Same H H') : WaysAt p h os H' d ks f :=
  ⟨s _ _ W.tab, W.nd, W.ok, fun q hq => (W.ways q hq).keep (tk_of s)⟩
theorem But.tkd {d : Addr} {H H' : Hp} {kvs : List (List Key × V)} (b : But d H H') (hd : H d = some (.dT kvs)) : TupKeep H H' := fun c xs e => b c _ (ne_of e hd (by intro z; cases z)) e
def spAddWays (C : Addr) : Sp := fun vs H Q _ => ∃ (x t d : Addr) (p h hs dy : Nat) (os : List Od) (F : List Addr) (ks : List (Nat × Nat)) (f : Nat × Nat → V), vs = [.ref x, .int hs, .int dy, .ref d] ∧ NetAt C H x p h os t F ∧ NetOk p h os ∧ hs < h ∧ dy < p ∧ d ∉ F ∧
  WaysAt p h os H d ks f ∧ ∀ H' ks' f', But d H H' → WaysAt p h os H' d ks' f' → (∀ q ∈ ks, q ∈ ks') → (hs, dy) ∈ ks' → Q .non H'
/-- the state amid the trail: its stops are the first of the letter's -/
structure TrailAt (p h : Nat) (os : List Od) (H H' : Hp) (d tl : Addr) (st : Nat × Nat) (ks l : List (Nat × Nat)) (ts : List V) (f : Nat × Nat → V) : Prop where
  but : But d H H'
  stp : ∀ j, j < l.length → l[j]? = stp p os j st
  trail : H' tl = some (.lst ts)
  stops : Paired (StopAt H') ts l
  tab : H' d = some (.dT (wkv p (ks ++ l.map (plc p)) f))
  nd : (ks ++ l.map (plc p)).Nodup
  ok : ∀ q ∈ ks, q.1 < h ∧ q.2 < p
  ways : ∀ q ∈ ks, OptStop H' (f q) (wayOf p h os q)
  non : ∀ q ∈ l.map (plc p), f q = .non
section
variable {p h : Nat} {os : List Od} {H H' H2 : Hp} {d tl : Addr} {st : Nat × Nat} {ks l : List (Nat × Nat)} {ts : List V} {f : Nat × Nat → V}
theorem TrailAt.same (T : TrailAt p h os H H' d tl st ks l ts f) (s : Same H' H2) : TrailAt p h os H H2 d tl st ks l ts f :=
  { T with but := T.but.trans (.of s), trail := s _ _ T.trail, stops := StopsAt.keep (tk_of s) T.stops, tab := s _ _ T.tab, ways := fun q hq => (T.ways q hq).keep (tk_of s) }
theorem TrailAt.house (T : TrailAt p h os H H' d tl st ks l ts f) (nok : NetOk p h os) (hh : st.1 < h) : ∀ s ∈ l, s.1 < h := fun s hs => by
  obtain ⟨j, hj⟩ := List.getElem?_of_mem hs
  have lt := (List.getElem?_eq_some_iff.mp hj).1
  exact pst_house nok hh j ((T.stp j lt).symm.trans hj)
theorem TrailAt.len (T : TrailAt p h os H H' d tl st ks l ts f) (nok : NetOk p h os) (hh : st.1 < h) : l.length ≤ h * p :=
  places_bound nok.p1 (T.house nok hh) (List.nodup_append.mp T.nd).2.1
theorem TrailAt.plcs (T : TrailAt p h os H H' d tl st ks l ts f) : ∀ q ∈ ks ++ l.map (plc p), plc p q = q := fun q hq => by
  rcases List.mem_append.mp hq with z | z
  · exact plc_lt (T.ok q z).2
  · obtain ⟨s, _, rfl⟩ := List.mem_map.mp z
    exact plc_plc s
theorem TrailAt.oks (T : TrailAt p h os H H' d tl st ks l ts f) (nok : NetOk p h os) (hh : st.1 < h) : ∀ q ∈ ks ++ l.map (plc p), q.1 < h ∧ q.2 < p := fun q hq => by
  rcases List.mem_append.mp hq with z | z
  · exact T.ok q z
  · obtain ⟨s, hs, rfl⟩ := List.mem_map.mp z
    exact ⟨T.house nok hh s hs, Nat.mod_lt _ nok.p1⟩
theorem TrailAt.keys (T : TrailAt p h os H H' d tl st ks l ts f) (nok : NetOk p h os) (hh : st.1 < h) : (ks ++ l.map (plc p)).length ≤ h * p := by
  have e : (ks ++ l.map (plc p)).map (plc p) = ks ++ l.map (plc p) := by
    rw [List.map_congr_left (g := id) fun q hq => T.plcs q hq, List.map_id]
  exact places_bound nok.p1 (fun s hs => (T.oks nok hh s hs).1) (by rw [e]; exact T.nd)
/-- a stop of the trail is where the letter comes to: so is its end -/
theorem TrailAt.dst (T : TrailAt p h os H H' d tl st ks l ts f) (nok : NetOk p h os) (hh : st.1 < h) {s : Nat × Nat} (hs : s ∈ l) : Cp.dst p h os st = Cp.dst p h os s := by
  obtain ⟨j, hj⟩ := List.getElem?_of_mem hs
  have lt := (List.getElem?_eq_some_iff.mp hj).1
  exact dst_stp nok hh ((T.stp j lt).symm.trans hj)
/-- all that the trail holds chases: the table is right as it is -/
theorem TrailAt.done (T : TrailAt p h os H H' d tl st ks l ts f) (nok : NetOk p h os) (hh : st.1 < h) (e : Cp.dst p h os st = none) : WaysAt p h os H' d (ks ++ l.map (plc p)) f :=
  ⟨T.tab, T.nd, T.oks nok hh, fun q hq => by
    rcases List.mem_append.mp hq with z | z
    · exact T.ways q z
    · rw [T.non q z]
      obtain ⟨s, hs, rfl⟩ := List.mem_map.mp z
      rw [wayOf_plc nok (T.house nok hh s hs)]
      unfold wayOf
      rw [← T.dst nok hh hs, e]
      exact rfl⟩
/-- one stop more -/
theorem TrailAt.more (T : TrailAt p h os H H' d tl st ks l ts f) {c : Nat × Nat} {u : Addr} {xs : List V} (hc : Cp.stp p os l.length st = some c) (hn : plc p c ∉ ks ++ l.map (plc p)) (hu : H' u = some (.tup xs)) (hs : StopAt H' (.ref u) c) (nd : tl ≠ d) (n0 : H tl = none) :
    TrailAt p h os H (upd (upd H' d (.dT (wkv p (ks ++ (l ++ [c]).map (plc p)) (setF f (plc p c) .non)))) tl (.lst (ts ++ [.ref u]))) d tl st ks (l ++ [c]) (ts ++ [.ref u]) (setF f (plc p c) .non) := by
  have k1 : TupKeep H' (upd H' d (.dT (wkv p (ks ++ (l ++ [c]).map (plc p)) (setF f (plc p c) .non)))) := fun b ys e => by
    rw [upd_ne (ne_of e T.tab (by intro z; cases z))]
    exact e
  have htl : (upd H' d (.dT (wkv p (ks ++ (l ++ [c]).map (plc p)) (setF f (plc p c) .non)))) tl = some (.lst ts) := by
    rw [upd_ne nd]
    exact T.trail
  have k2 := k1.trans (TupKeep.lst (o := HO.lst (ts ++ [.ref u])) htl)
  refine ⟨fun b o nb e => ?_, fun j hj => ?_, upd_same, ?_, ?_, ?_, T.ok, fun q hq => ?_, fun q hq => ?_⟩
  · have n2 : b ≠ tl := fun z => by
      rw [z, n0] at e
      cases e
    rw [upd_ne n2, upd_ne nb]
    exact T.but b o nb e
  · rw [List.length_append, List.length_singleton] at hj
    by_cases z : j < l.length
    · rw [List.getElem?_append_left z]
      exact T.stp j z
    · obtain rfl : j = l.length := by omega
      rw [List.getElem?_append_right (Nat.le_refl _), Nat.sub_self, hc]
      rfl
  · exact Paired.snoc (StopsAt.keep k2 T.stops) (hs.keep k2)
  · rw [upd_ne nd.symm, upd_same]
  · rw [List.map_append, ← List.append_assoc, List.nodup_append]
    refine ⟨T.nd, by simp, fun a ha b hb => ?_⟩
    rw [List.map_cons, List.map_nil, List.mem_singleton] at hb
    rw [hb]
    intro e
    exact hn (e ▸ ha)
  · have e : setF f (plc p c) .non q = f q := by
      show (if q = plc p c then _ else _) = _
      rw [if_neg fun z : q = plc p c => hn (z ▸ List.mem_append_left _ hq)]
    rw [e]
    exact (T.ways q hq).keep k2
  · show (if q = plc p c then _ else _) = _
    by_cases z : q = plc p c
    · rw [if_pos z]
    · rw [if_neg z]
      rw [List.map_append] at hq
      rcases List.mem_append.mp hq with y | y
      · exact T.non q y
      · rw [List.map_cons, List.map_nil, List.mem_singleton] at y
        exact absurd y z
end
section
variable {P : Program} {w : World} {K : PySem.W.Frag} {mg : Str → Option Value} {base : Heap}
/-- ways of the trail set one by one -/
structure EndAt (p h : Nat) (os : List Od) (H H' : Hp) (d tl : Addr) (K : List (Nat × Nat)) (l : List (Nat × Nat)) (ts : List V) (j : Nat) (f : Nat × Nat → V) : Prop where
  but : But d H H'
  trail : H' tl = some (.lst ts)
  stops : Paired (StopAt H') ts l
  tab : H' d = some (.dT (wkv p K f))
  ways : ∀ q ∈ K, q ∉ (l.drop j).map (plc p) → OptStop H' (f q) (wayOf p h os q)
theorem ok_add_ways {f C fS : Addr} {fd fdS : FuncData} (F : Fun K "add_ways" "add_ways" s_add_ways f fd) (T : NetT K C) (GS : FnOk P w K mg base CX0 2 fS fdS P_Net_stop_after (spStop C)) (mS : Meth K C "stop_after" fS) (bS : Binds K fdS P_Net_stop_after []) :
    FnOk P w K mg base CX0 3 f fd P_add_ways (spAddWays C) := by
  refine F.ok sc_add_ways (fun vs H Q E h => ?_) (fun cdv A outer s H vs Q E hr h => ?_)
  · obtain ⟨x, t, d, p, h, hs, dy, os, F, ks, f, rfl, _⟩ := h
    rfl
  · obtain ⟨x, t, d, p, h, hs, dy, os, F, ks, f0, rfl, Nt, nok, hh, hdy, ndF, W0, q⟩ := h
    have hu : (A.deeper (PyProof.Rows.envOfC "add_ways" (defScope s_add_ways) s.heap.objs.size f cdv)).units + 1 < cLine := hu_of hr
    have hr1 : Room 2 _ := hr.mono (by decide)
    refine ⟨_, pss_cons (ps_set (i := 4) sc_add_ways.nd rfl (.inl rfl) (pe_lst pa_nil))
      (pss_cons (ps_set (i := 5) sc_add_ways.nd rfl (.inl rfl) (pe_tup (pa_cons (pv 1) (pa_cons (pv 2) pa_nil))))
      (C8.pss_cut (ps_while PassesOwn.never (PW.pt (pw_and (pt_cmpR op_notN (pv 5) pe_non (nomark _)) (pw_and1 (pt_cmp (pc_dnotin hu (pe_tup (pa_cons (pe_ix ix_tup (pv 5) pe_int (fun _ _ => rfl)) (pa_cons (pe_op op_modN (pe_ix ix_tup (pv 5) pe_int (fun _ _ => rfl)) (pe_fld (pv 0) rfl)) pa_nil))) (pv 3))))))
        (pss_cons (ps_dput hu (pv 3) (pe_tup (pa_cons (pe_ix ix_tup (pv 5) pe_int (fun _ _ => rfl)) (pa_cons (pe_op op_modN (pe_ix ix_tup (pv 5) pe_int (fun _ _ => rfl)) (pe_fld (pv 0) rfl)) pa_nil))) pe_non (by rfl))
        (pss_cons (ps_expr (pe_bm PySem.F.plainAttrs_list PySem.F.slot_list_append PySem.F.type_list_append mt_append (pv 4) (pa_cons (pv 5) pa_nil)))
        (pss_one (ps_set (i := 5) sc_add_ways.nd rfl (.inl rfl) (pe_meth (pv 0) T.cl mS GS hr1 bS .nil pass0 (pa_cons (pe_ix ix_tup (pv 5) pe_int (fun _ _ => rfl)) (pa_cons (pe_ix ix_tup (pv 5) pe_int (fun _ _ => rfl)) pa_nil))))))))
      (C8.pss_cut (ps_if (pt_cmpR op_isN (pv 5) pe_non (nomark _))
          (pss_one (ps_asg (pe_ix ix_list (pv 4) (pe_un un_neg pe_int) (fun _ _ => rfl)) (pg_tup (by rfl) (pgs_cons (pg_name (i := 6) sc_add_ways.nd rfl (.inl rfl)) (pgs_cons (pg_name (i := 7) sc_add_ways.nd rfl (.inl rfl)) pgs_nil)))))
          (pss_cons (ps_set (i := 8) sc_add_ways.nd rfl (.inl rfl) (pe_dget hu (pv 3) (pe_tup (pa_cons (pe_ix ix_tup (pv 5) pe_int (fun _ _ => rfl)) (pa_cons (pe_op op_modN (pe_ix ix_tup (pv 5) pe_int (fun _ _ => rfl)) (pe_fld (pv 0) rfl)) pa_nil))) (fun _ _ => rfl)))
          (pss_cons (ps_if (pt_cmpR op_isN (pv 8) pe_non (nomark _)) (pss_one ps_retN) pss_nil)
          (pss_one (ps_par (by rfl) sc_add_ways.nd (i := 6) (j := 7) rfl rfl (by decide) rfl rfl (pa_cons (pe_ix ix_tup (pv 8) pe_int (fun _ _ => rfl)) (pa_cons (pe_op op_add (pe_ix ix_tup (pv 5) pe_int (fun _ _ => rfl)) (pe_ix ix_tup (pv 8) pe_int (fun _ _ => rfl))) pa_nil)) (by rfl))))))
      (pss_one (ps_for PassesOwn.never rfl (pi_list (pv 4)) (pg_tup (by rfl) (pgs_cons (pg_name (i := 9) sc_add_ways.nd rfl (.inl rfl)) (pgs_cons (pg_name (i := 10) sc_add_ways.nd rfl (.inl rfl)) pgs_nil)))
        (pss_one (ps_dput hu (pv 3) (pe_tup (pa_cons (pv 9) (pa_cons (pe_op op_modN (pv 10) (pe_fld (pv 0) rfl)) pa_nil))) (pe_tup (pa_cons (pv 6) (pa_cons (pe_op op_sub (pv 7) (pv 10)) pa_nil))) (by rfl)))))))), ?_⟩
    have hp : 0 < p := nok.p1
    have p30 := nok.p30; have h10 := nok.h10
    have big : h * p ≤ 300 := Nat.mul_le_mul h10 p30
    refine ⟨Nat.zero_le _, fun tl ntl => ?_⟩
    refine ⟨_, rfl, _, rfl, (by show 2 ≤ sizeLine; decide), fun u0 nu0 => ?_⟩
    have s1 := same_upd (o := HO.lst []) ntl
    have s2 := same_upd (o := HO.tup [.int hs, .int dy]) nu0
    have s12 := s1.trans s2
    have ntd : tl ≠ d := (ne_of_none W0.tab ntl).symm
    have htl0 : (upd (upd H tl (.lst [])) u0 (.tup [.int hs, .int dy])) tl = some (.lst []) := s2 _ _ upd_same
    have hu0 : (upd (upd H tl (.lst [])) u0 (.tup [.int hs, .int dy])) u0 = some (.tup [.int hs, .int dy]) := upd_same
    generalize (upd (upd H tl (.lst [])) u0 (.tup [.int hs, .int dy])) = H0 at s12 htl0 hu0
    have T0 : TrailAt p h os H H0 d tl (hs, dy) ks [] [] f0 := ⟨.of s12, fun j z => absurd z (Nat.not_lt_zero _), htl0, .nil, by rw [List.map_nil, List.append_nil]; exact s12 _ _ W0.tab, by rw [List.map_nil, List.append_nil]; exact W0.nd, W0.ok, fun q hq => (W0.ways q hq).keep (tk_of s12), fun q hq => by cases hq⟩
    have netT : ∀ {H' : Hp}, But d H H' → NetAt C H' x p h os t F := fun b => Nt.but b (b.tkd W0.tab) ndF
    refine ⟨fun σ' H' => ∃ (l : List (Nat × Nat)) (ts : List V) (f : Nat × Nat → V) (v : V) (cur : Option (Nat × Nat)), σ' = [some (.ref x), some (.int hs), some (.int dy), some (.ref d), some (.ref tl), some v, none, none, none, none, none] ∧
        TrailAt p h os H H' d tl (hs, dy) ks l ts f ∧ stp p os l.length (hs, dy) = cur ∧ OptStop H' v cur ∧ (∀ c, cur = some c → plc p c ∈ ks ++ l.map (plc p)), ?_, ?_⟩
    · refine ⟨fun m σ' H' => ∃ (l : List (Nat × Nat)) (ts : List V) (f : Nat × Nat → V) (v : V) (cur : Option (Nat × Nat)), l.length + m = h * p ∧ σ' = [some (.ref x), some (.int hs), some (.int dy), some (.ref d), some (.ref tl), some v, none, none, none, none, none] ∧
        TrailAt p h os H H' d tl (hs, dy) ks l ts f ∧ stp p os l.length (hs, dy) = cur ∧ OptStop H' v cur, ⟨h * p, [], [], f0, _, some (hs, dy), by simp, rfl, T0, rfl, ⟨u0, rfl, hu0⟩⟩, ?_⟩
      rintro m σ' H1 ⟨l, ts, f, v, cur, hm, rfl, T1, hcur, hv⟩
      have N1 := netT T1.but
      obtain ⟨dx, _, _, _, hx, _⟩ := id N1
      refine ⟨_, rfl, rfl, _, rfl, ?_⟩
      cases cur with
      | none =>
        obtain rfl : v = .non := hv
        exact iteF (iteF ⟨l, ts, f, _, none, rfl, T1, hcur, rfl, fun c z => by cases z⟩)
      | some c =>
        obtain ⟨u, rfl, hu⟩ := hv
        have hc1 : c.1 < h := pst_house nok hh _ hcur
        refine iteT ⟨_, rfl, u, _, 0, _, rfl, rfl, SqT.of hu, atI_nat (j := 0) rfl, _, rfl, u, _, 1, _, rfl, rfl, SqT.of hu, atI_nat (j := 1) rfl, _, rfl, x, C, dx, _, _, rfl, hx, T.cl, T.nP, nf_pe, _, _, rfl, rfl, by omega, (by show 2 ≤ sizeLine; decide), fun pl npl => ?_⟩
        have s3 := same_upd (o := HO.tup [.int c.1, .int ((c.2 : Int).fmod (p : Int))]) npl
        have hpl : (upd H1 pl (.tup [.int c.1, .int ((c.2 : Int).fmod (p : Int))])) pl = some (.tup ((keyOf p c).map kV)) := by
          rw [upd_same, fmod_nat]
          rfl
        have T2 := T1.same s3
        have hu2 := s3 _ _ hu
        generalize (upd H1 pl (.tup [.int c.1, .int ((c.2 : Int).fmod (p : Int))])) = H2 at s3 hpl T2 hu2
        refine ⟨_, rfl, d, _, rfl, DGet.t T2.tab hpl, ?_⟩
        rw [wkv_val T2.plcs]
        by_cases hin : plc p c ∈ ks ++ l.map (plc p)
        · rw [if_pos hin]
          exact ⟨_, rfl, iteF ⟨l, ts, f, _, some c, rfl, T2, hcur, ⟨u, rfl, hu2⟩, fun c' e => by cases e; exact hin⟩⟩
        · rw [if_neg hin]
          refine ⟨_, rfl, iteT ?_⟩
          have hlen := T2.len nok hh
          have hkl := T2.keys nok hh
          have N2 := netT T2.but
          obtain ⟨dx2, _, _, _, hx2, _⟩ := id N2
          -- what the turn leaves
          refine ⟨fun σ' H' => ∃ (ts' : List V) (f' : Nat × Nat → V) (v : V), σ' = [some (.ref x), some (.int hs), some (.int dy), some (.ref d), some (.ref tl), some v, none, none, none, none, none] ∧ TrailAt p h os H H' d tl (hs, dy) ks (l ++ [c]) ts' f' ∧ OptStop H' v (hop p os c), ?_, ?_⟩
          · rintro σ' H' ⟨ts', f', v, rfl, T', hv'⟩
            have hl' := T'.len nok hh
            rw [List.length_append, List.length_singleton] at hl'
            refine ⟨m - 1, by omega, l ++ [c], ts', f', v, hop p os c, by rw [List.length_append, List.length_singleton]; omega, rfl, T', ?_, hv'⟩
            rw [List.length_append, List.length_singleton]
            show (stp p os l.length (hs, dy)).bind (hop p os) = _
            rw [hcur]
            rfl
          -- ways[..] = None
          refine ⟨_, rfl, _, rfl, u, _, 0, _, rfl, rfl, SqT.of hu2, atI_nat (j := 0) rfl, _, rfl, u, _, 1, _, rfl, rfl, SqT.of hu2, atI_nat (j := 1) rfl, _, rfl, x, C, dx2, _, _, rfl, hx2, T.cl, T.nP, nf_pe, _, _, rfl, rfl, by omega, (by show 2 ≤ sizeLine; decide), fun pm npm => ?_⟩
          have s4 := same_upd (o := HO.tup [.int c.1, .int ((c.2 : Int).fmod (p : Int))]) npm
          have hpm : (upd H2 pm (.tup [.int c.1, .int ((c.2 : Int).fmod (p : Int))])) pm = some (.tup ((keyOf p c).map kV)) := by
            rw [upd_same, fmod_nat]
            rfl
          have T3 := T2.same s4
          have hu3 := s4 _ _ hu2
          generalize (upd H2 pm (.tup [.int c.1, .int ((c.2 : Int).fmod (p : Int))])) = H3 at s4 hpm T3 hu3
          have Tm := T3.more (u := u) hcur hin hu3 ⟨u, rfl, hu3⟩ ntd ntl
          have hkn : (wkv p (ks ++ l.map (plc p)) f).length < sizeLine := by
            unfold wkv
            rw [List.length_map]
            exact small1000 (by omega)
          refine ⟨d, _, rfl, DPut.t T3.tab hpm hkn, ?_⟩
          rw [wkv_new T3.plcs hin, show (ks ++ l.map (plc p)) ++ [plc p c] = ks ++ (l ++ [c]).map (plc p) by rw [List.map_append, List.append_assoc]; rfl]
          have htl4 : (upd H3 d (.dT (wkv p (ks ++ (l ++ [c]).map (plc p)) (setF f (plc p c) .non)))) tl = some (.lst ts) := by
            rw [upd_ne ntd]
            exact T3.trail
          refine ⟨_, rfl, .inl ⟨rfl, _, SqL.of htl4⟩, _, rfl, tl, _, _, rfl, rfl, htl4, ?_, ?_⟩
          · have := T3.stops.length
            exact small1000 (by omega)
          have N4 := netT Tm.but
          obtain ⟨u', e4, hu5⟩ := (pair_last Tm.stops : StopAt _ (.ref u) c)
          obtain rfl : u = u' := by cases e4; rfl
          generalize (upd (upd H3 d (.dT (wkv p (ks ++ (l ++ [c]).map (plc p)) (setF f (plc p c) .non)))) tl (.lst (ts ++ [.ref u]))) = H4 at Tm N4 hu5
          obtain ⟨dx4, _, _, _, hx4, _⟩ := id N4
          refine ⟨_, rfl, x, dx4, _, rfl, hx4, nf_no (by decide +kernel) (by decide +kernel) (by decide +kernel) (by decide +kernel), _, rfl, u, _, 0, _, rfl, rfl, SqT.of hu5, atI_nat (j := 0) rfl, _, rfl, u, _, 1, _, rfl, rfl, SqT.of hu5, atI_nat (j := 1) rfl, ?_⟩
          refine ⟨x, t, p, h, c.1, c.2, os, F, rfl, N4, hp, hc1, fun H5 v s5 hv5 => ⟨_, _, v, rfl, Tm.same s5, ?_⟩⟩
          cases e : hop p os c with
          | none =>
            rw [show hop p os (c.1, c.2) = none from e] at hv5
            exact hv5
          | some c' =>
            rw [show hop p os (c.1, c.2) = some c' from e] at hv5
            obtain ⟨y, e1, _, e2⟩ := hv5
            exact ⟨y, e1, e2⟩
    · rintro σ' H1 ⟨l, ts, f, v, cur, rfl, T1, hcur, hv, hin⟩
      have hks : ∀ q ∈ ks, q ∈ ks ++ l.map (plc p) := fun q hq => List.mem_append_left _ hq
      have memK : (hs, dy) ∈ ks ++ l.map (plc p) := by
        have e0 : plc p (hs, dy) = (hs, dy) := plc_lt hdy
        by_cases z : l.length = 0
        · rw [z] at hcur
          have := hin (hs, dy) hcur.symm
          rw [e0] at this
          exact this
        · have h0 := T1.stp 0 (by omega)
          exact List.mem_append_right _ (List.mem_map.mpr ⟨(hs, dy), List.mem_of_getElem? (h0.trans rfl), e0⟩)
      have N1 := netT T1.but
      obtain ⟨dx, _, _, _, hx, _⟩ := id N1
      refine ⟨fun σ' H' => ∃ (ts : List V) (f : Nat × Nat → V) (x8 : Option V) (g : Nat × Nat), σ' = [some (.ref x), some (.int hs), some (.int dy), some (.ref d), some (.ref tl), some v, some (.int g.1), some (.int g.2), x8, none, none] ∧
          TrailAt p h os H H' d tl (hs, dy) ks l ts f ∧ dst p h os (hs, dy) = some g, ⟨_, rfl, rfl, _, rfl, ?_⟩, ?_⟩
      · cases cur with
        | none =>
          obtain rfl : v = .non := hv
          have hne : l ≠ [] := fun z => by
            rw [z] at hcur
            cases hcur
          obtain ⟨l', c, rfl⟩ : ∃ l' c, l = l' ++ [c] := ⟨l.dropLast, l.getLast hne, (List.dropLast_concat_getLast hne).symm⟩
          obtain ⟨ts', v', rfl, _, u, rfl, hu⟩ := pair_split T1.stops
          have hc : stp p os l'.length (hs, dy) = some c := by
            rw [← T1.stp l'.length (by rw [List.length_append, List.length_singleton]; omega), List.getElem?_append_right (Nat.le_refl _), Nat.sub_self]
            rfl
          have hg : dst p h os (hs, dy) = some c := (dst_iff nok hh).mpr ⟨_, hc, by
            rw [List.length_append, List.length_singleton] at hcur
            have e : (stp p os l'.length (hs, dy)).bind (hop p os) = none := hcur
            rw [hc] at e
            exact e⟩
          refine iteT ⟨_, rfl, 1, rfl, tl, _, -1, _, rfl, rfl, SqL.of T1.trail, atI_last _ _, ?_⟩
          exact ⟨u, _, rfl, SqT.of hu, rfl, _, _, rfl, _, _, rfl, rfl, _, f, none, c, rfl, T1, hg⟩
        | some c =>
          obtain ⟨u, rfl, hu⟩ := hv
          have hin := hin c rfl
          have hc1 : c.1 < h := pst_house nok hh _ hcur
          have hdc := dst_stp nok hh hcur
          refine iteF ⟨_, rfl, _, rfl, u, _, 0, _, rfl, rfl, SqT.of hu, atI_nat (j := 0) rfl, _, rfl, u, _, 1, _, rfl, rfl, SqT.of hu, atI_nat (j := 1) rfl, _, rfl, x, C, dx, _, _, rfl, hx, T.cl, T.nP, nf_pe, _, _, rfl, rfl, by omega, (by show 2 ≤ sizeLine; decide), fun pl npl => ?_⟩
          have s3 := same_upd (o := HO.tup [.int c.1, .int ((c.2 : Int).fmod (p : Int))]) npl
          have hpl : (upd H1 pl (.tup [.int c.1, .int ((c.2 : Int).fmod (p : Int))])) pl = some (.tup ((keyOf p c).map kV)) := by
            rw [upd_same, fmod_nat]
            rfl
          have T2 := T1.same s3
          have hu2 := s3 _ _ hu
          generalize (upd H1 pl (.tup [.int c.1, .int ((c.2 : Int).fmod (p : Int))])) = H2 at s3 hpl T2 hu2
          have hg := DGet.t T2.tab hpl
          rw [wkv_val T2.plcs, if_pos hin] at hg
          refine ⟨d, _, rfl, hg, ?_⟩
          refine ⟨_, rfl, rfl, _, rfl, ?_⟩
          -- what is known of this place
          have know : (f (plc p c) = .non ∧ dst p h os (hs, dy) = none) ∨ ∃ (z : Addr) (g : Nat × Nat), f (plc p c) = .ref z ∧ H2 z = some (.tup [.int g.1, .int g.2]) ∧ dst p h os (hs, dy) = some (g.1, c.2 + g.2) := by
            rcases List.mem_append.mp hin with z | z
            · have hw := T2.ways _ z
              have hd2 := dst_way nok hc1
              cases e : wayOf p h os (plc p c) with
              | none =>
                rw [e] at hw hd2
                exact .inl ⟨hw, hdc.trans hd2⟩
              | some g =>
                rw [e] at hw hd2
                obtain ⟨y, e1, e2⟩ := hw
                exact .inr ⟨y, g, e1, e2, hdc.trans hd2⟩
            · refine .inl ⟨T2.non _ z, ?_⟩
              obtain ⟨s, hs1, hs2⟩ := List.mem_map.mp z
              obtain ⟨j, hj⟩ := List.getElem?_of_mem hs1
              have lt := (List.getElem?_eq_some_iff.mp hj).1
              have hsj := (T2.stp j lt).symm.trans hj
              have e1 : j + (l.length - j - 1 + 1) = l.length := by omega
              have more := stp_more (b := c) nok hsj (k := l.length - j - 1) (by rw [e1]; exact hcur)
              have e2 : stp p os (l.length - j) s = some c := by
                have := hcur
                rw [show l.length = j + (l.length - j) by omega, stp_add, hsj] at this
                exact this
              have hk : c = shf (p * (c.2 / p - s.2 / p)) s := by
                have h1 : s.1 = c.1 := (Prod.mk.inj hs2).1
                have h2 : s.2 % p = c.2 % p := (Prod.mk.inj hs2).2
                refine Prod.ext h1.symm ?_
                show c.2 = s.2 + p * (c.2 / p - s.2 / p)
                have a1 := Nat.div_add_mod c.2 p
                have a2 := Nat.div_add_mod s.2 p
                have a3 : s.2 / p ≤ c.2 / p := Nat.div_le_div_right (Nat.le_of_lt more)
                rw [Nat.mul_sub]
                have a4 : p * (s.2 / p) ≤ p * (c.2 / p) := Nat.mul_le_mul_left _ a3
                omega
              have pos : 0 < p * (c.2 / p - s.2 / p) := by
                have h3 : c.2 = s.2 + p * (c.2 / p - s.2 / p) := congrArg Prod.snd hk
                omega
              rw [hk] at e2
              rw [T2.dst nok hh hs1]
              exact dst_cycle nok (pst_house nok hh j hsj) e2 pos
          rcases know with ⟨e1, e2⟩ | ⟨z, g, e1, e2, e3⟩
          · rw [e1]
            exact iteT (q H2 _ f T2.but (T2.done nok hh e2) hks memK)
          · rw [e1]
            refine iteF ⟨_, rfl, z, _, 0, _, rfl, rfl, SqT.of e2, atI_nat (j := 0) rfl, _, rfl, u, _, 1, _, rfl, rfl, SqT.of hu2, atI_nat (j := 1) rfl, _, rfl, z, _, 1, _, rfl, rfl, SqT.of e2, atI_nat (j := 1) rfl, _, _, rfl, rfl, ?_⟩
            refine ⟨_, _, rfl, _, f, some (.ref z), (g.1, c.2 + g.2), ?_, T2, e3⟩
            show _ = [some (.ref x), some (.int hs), some (.int dy), some (.ref d), some (.ref tl), some (V.ref u), some (.int g.1), some (.int ((c.2 + g.2 : Nat) : Int)), some (.ref z), none, none]
            rw [Int.natCast_add]
            rfl
      · rintro σ' H2 ⟨ts, f, x8, g, rfl, T2, hg⟩
        have hTl := T2.stops.length
        refine ⟨_, rfl, tl, rfl, ⟨_, SqL.of T2.trail⟩, ?_⟩
        refine for_list (K := K) (a := tl) (xs := ts) (fun j σ H' => (∃ x9 x10, σ = [some (.ref x), some (.int hs), some (.int dy), some (.ref d), some (.ref tl), some v, some (.int g.1), some (.int g.2), x8, x9, x10]) ∧ ∃ f, EndAt p h os H H' d tl (ks ++ l.map (plc p)) l ts j f)
          ⟨⟨_, _, rfl⟩, f, ⟨T2.but, T2.trail, T2.stops, T2.tab, fun q hq hn => ?_⟩⟩ (fun j σ H' _ ⟨_, f, E'⟩ => SqL.of E'.trail) ?_ ?_
        · rcases List.mem_append.mp hq with z | z
          · exact T2.ways q z
          · exact absurd z hn
        · rintro j v' σ H3 hj ⟨⟨x9, x10, rfl⟩, f, E3⟩
          have lt : j < l.length := by
            rw [← hTl]
            exact (List.getElem?_eq_some_iff.mp hj).1
          have ej := List.getElem?_eq_getElem lt
          obtain ⟨v'', hv'', u, e0, hu⟩ := Paired.get? (i := j) E3.stops ej
          obtain rfl : v'' = v' := Option.some.inj (hv''.symm.trans hj)
          subst e0
          have hsm : l[j] ∈ l := List.getElem_mem lt
          have hdr : l.drop j = l[j] :: l.drop (j + 1) := List.drop_eq_getElem_cons lt
          generalize l[j] = sj at ej hu hsm hdr
          have hdj := T2.dst nok hh hsm
          have hhj := T2.house nok hh sj hsm
          rw [hg] at hdj
          have hle := dst_le nok hhj hdj.symm
          obtain ⟨dx3, _, _, _, hx3, _⟩ := id (netT E3.but)
          refine ⟨u, _, rfl, SqT.of hu, rfl, _, _, rfl, _, _, rfl, rfl, ?_⟩
          refine ⟨_, rfl, _, rfl, _, rfl, _, _, rfl, rfl, (by show 2 ≤ sizeLine; decide), fun y ny => ?_⟩
          have s4 := same_upd (o := HO.tup [.int g.1, .int ((g.2 : Int) - (sj.2 : Int))]) ny
          have hy : (upd H3 y (.tup [.int g.1, .int ((g.2 : Int) - (sj.2 : Int))])) y = some (.tup [.int g.1, .int ((g.2 - sj.2 : Nat) : Int)]) := by
            rw [upd_same, show ((g.2 : Int) - (sj.2 : Int)) = ((g.2 - sj.2 : Nat) : Int) by omega]
          have hx4 := s4 _ _ hx3
          generalize (upd H3 y (.tup [.int g.1, .int ((g.2 : Int) - (sj.2 : Int))])) = H4 at s4 hy hx4
          refine ⟨_, rfl, _, rfl, _, rfl, _, rfl, x, C, dx3, _, _, rfl, hx4, T.cl, T.nP, nf_pe, _, _, rfl, rfl, by omega, (by show 2 ≤ sizeLine; decide), fun pk npk => ?_⟩
          have s5 := same_upd (o := HO.tup [.int sj.1, .int ((sj.2 : Int).fmod (p : Int))]) npk
          have hpk : (upd H4 pk (.tup [.int sj.1, .int ((sj.2 : Int).fmod (p : Int))])) pk = some (.tup ((keyOf p sj).map kV)) := by
            rw [upd_same, fmod_nat]
            rfl
          have s45 := s4.trans s5
          have hy5 := s5 _ _ hy
          generalize (upd H4 pk (.tup [.int sj.1, .int ((sj.2 : Int).fmod (p : Int))])) = H5 at s45 hpk hy5
          have htab := s45 _ _ E3.tab
          have hkl := T2.keys nok hh
          have hkn : (wkv p (ks ++ l.map (plc p)) f).length < sizeLine := by
            unfold wkv
            rw [List.length_map]
            exact small1000 (by omega)
          refine ⟨d, _, rfl, DPut.t htab hpk hkn, ?_⟩
          rw [wkv_old T2.plcs (List.mem_append_right _ (List.mem_map.mpr ⟨sj, hsm, rfl⟩))]
          have k6 : TupKeep H5 (upd H5 d (.dT (wkv p (ks ++ l.map (plc p)) (setF f (plc p sj) (.ref y))))) := fun b ys e => by
            rw [upd_ne (ne_of e htab (by intro z; cases z))]
            exact e
          have k36 := (tk_of s45).trans k6
          refine ⟨⟨_, _, rfl⟩, setF f (plc p sj) (.ref y), ⟨(E3.but.trans (.of s45)).trans .upd, ?_, StopsAt.keep k36 E3.stops, upd_same, fun q hq hn => ?_⟩⟩
          · rw [upd_ne ntd]
            exact s45 _ _ E3.trail
          · show OptStop _ (if q = plc p sj then _ else _) _
            by_cases z : q = plc p sj
            · rw [if_pos z, z, wayOf_plc nok hhj]
              unfold wayOf
              rw [← hdj]
              exact ⟨y, rfl, k6 _ _ hy5⟩
            · rw [if_neg z]
              refine (E3.ways q hq ?_).keep k36
              rw [hdr]
              intro z2
              rcases List.mem_cons.mp z2 with e | e
              · exact z e
              · exact hn e
        · rintro σ H3 ⟨_, f, E3⟩
          rw [hTl] at E3
          refine q H3 _ f E3.but ⟨E3.tab, T2.nd, T2.oks nok hh, fun q hq => E3.ways q hq ?_⟩ hks memK
          rw [List.drop_eq_nil_iff.mpr (Nat.le_refl _)]
          intro z
          cases z
end
def spFindWays (C : Addr) : Sp := fun vs H Q _ => ∃ (x t : Addr) (p h : Nat) (os : List Od) (F : List Addr), vs = [.ref x] ∧ NetAt C H x p h os t F ∧ NetOk p h os ∧
  ∀ H' d ks f, Same H H' → H d = none → WaysAt p h os H' d ks f → (∀ q, q ∈ ks ↔ q ∈ lets p h) → Q (.ref d) H'
section
variable {P : Program} {w : World} {K : PySem.W.Frag} {mg : Str → Option Value} {base : Heap}
theorem ok_find_ways {f C : Addr} {fd : FuncData} (F : Fun K "find_ways" "find_ways" s_find_ways f fd) (DL : Df P w K mg base "letters" 2 P_letters (spLets C)) (DA : Df P w K mg base "add_ways" 3 P_add_ways (spAddWays C)) :
    FnOk P w K mg base CX0 4 f fd P_find_ways (spFindWays C) := by
  obtain ⟨fL, fdL, gL, kL, bL, GL⟩ := DL
  obtain ⟨fA, fdA, gA, kA, bA, GA⟩ := DA
  refine F.ok sc_find_ways (fun vs H Q E h => ?_) (fun cdv A outer s H vs Q E hr h => ?_)
  · obtain ⟨x, t, p, h, os, F, rfl, _⟩ := h
    rfl
  · obtain ⟨x, t, p, h, os, F, rfl, Nt, nok, q⟩ := h
    refine ⟨_, pss_cons (ps_set (i := 1) sc_find_ways.nd rfl (.inl rfl) pe_dnewT)
      (pss_cons (ps_for PassesOwn.never rfl (pi_list (pe_call GL (hr.mono (by decide)) (by rfl) gL kL bL .nil pass0 (pa_cons (pv 0) pa_nil))) (pg_tup (by rfl) (pgs_cons (pg_name (i := 2) sc_find_ways.nd rfl (.inl rfl)) (pgs_cons (pg_name (i := 3) sc_find_ways.nd rfl (.inl rfl)) pgs_nil)))
        (pss_one (ps_expr (pe_call GA hr (by rfl) gA kA bA .nil pass0 (pa_cons (pv 0) (pa_cons (pv 2) (pa_cons (pv 3) (pa_cons (pv 1) pa_nil))))))))
      (pss_one (ps_ret (pv 1)))), ?_⟩
    refine fun d nd => ?_
    have s1 := same_upd (o := HO.dT []) nd
    have ndF : d ∉ F := Nt.new nd
    refine ⟨_, rfl, x, t, p, h, os, F, rfl, Nt.same s1, nok, fun H1 r ws s2 nr hr1 hws => ?_⟩
    have hlen := hws.length
    have s12 := s1.trans s2
    have hd1 : H1 d = some (.dT []) := s2 _ _ upd_same
    have nrd : r ≠ d := (ne_of_none (upd_same (H := H)) nr).symm
    have N1 := Nt.same s12
    refine ⟨r, rfl, ⟨_, SqL.of hr1⟩, ?_⟩
    refine for_list (K := K) (a := r) (xs := ws) (fun i σ H' => (∃ x2 x3, σ = [some (.ref x), some (.ref d), x2, x3]) ∧ But d H1 H' ∧ ∃ ks f, WaysAt p h os H' d ks f ∧ ∀ q ∈ (lets p h).take i, q ∈ ks)
      ⟨⟨_, _, rfl⟩, .refl, [], fun _ => .non, ⟨hd1, List.nodup_nil, (fun q hq => by cases hq), (fun q hq => by cases hq)⟩, (fun q hq => by cases hq)⟩ (fun i σ H' _ ⟨_, b', _⟩ => SqL.of (b' r _ nrd hr1)) ?_ ?_
    · rintro i v σ H2 hi ⟨⟨x2, x3, rfl⟩, b2, ks, f, W2, hk⟩
      have lt : i < (lets p h).length := by
        rw [← hlen]
        exact (List.getElem?_eq_some_iff.mp hi).1
      have ei := List.getElem?_eq_getElem lt
      obtain ⟨v', hv', u, e0, hu⟩ := Paired.get? (i := i) hws ei
      obtain rfl : v' = v := Option.some.inj (hv'.symm.trans hi)
      subst e0
      have hm := mem_lets.mp (List.getElem_mem lt)
      generalize (lets p h)[i] = st at ei hu hm
      have k2 : TupKeep H1 H2 := b2.tkd hd1
      refine ⟨u, _, rfl, SqT.of (k2 _ _ hu), rfl, _, _, rfl, _, _, rfl, rfl, ?_⟩
      refine ⟨_, rfl, _, rfl, _, rfl, _, rfl, x, t, d, p, h, st.1, st.2, os, F, ks, f, rfl, N1.but b2 k2 ndF, nok, hm.1, hm.2, ndF, W2, fun H3 ks' f' b3 W3 sub mem => ?_⟩
      refine ⟨⟨_, _, rfl⟩, b2.trans b3, ks', f', W3, fun q hq => ?_⟩
      rw [List.take_add_one, ei] at hq
      rcases List.mem_append.mp hq with z | z
      · exact sub q (hk q z)
      · rw [Option.toList_some, List.mem_singleton] at z
        rw [z]
        exact mem
    · rintro σ H2 ⟨⟨x2, x3, rfl⟩, b2, ks, f, W2, hk⟩
      refine ⟨_, rfl, q H2 d ks f (fun b o e => b2 b o (ne_of_none e nd) (s12 _ _ e)) nd W2 fun z => ⟨fun hz => mem_lets.mpr (W2.ok z hz), fun hz => hk z ?_⟩⟩
      rw [hlen, List.take_of_length_le (Nat.le_refl _)]
      exact hz
end
/-! ### comprehensions that choose from a range, or from a list of numbers -/
theorem take_filter {α : Type} {f : α → Bool} {l : List α} {i : Nat} {q : α} (e : l[i]? = some q) : (l.take (i + 1)).filter f = (l.take i).filter f ++ (if f q = true then [q] else []) := by
  rw [List.take_add_one, e, List.filter_append]
  by_cases c : f q = true <;> simp [c]
theorem nints_len {l : List Nat} : (nints l).length = l.length := by
  unfold nints
  rw [List.length_map]
theorem nints_app {l m : List Nat} : nints (l ++ m) = nints l ++ nints m := by
  unfold nints
  rw [List.map_append]
theorem nints_V {l : List Nat} : nints l = (l.map fun (n : Nat) => (n : Int)).map V.int := by
  unfold nints
  rw [List.map_map]
  rfl
theorem nints_get {l : List Nat} {i : Nat} {v : V} (h : (nints l)[i]? = some v) : ∃ n, l[i]? = some n ∧ v = .int (n : Nat) := by
  unfold nints at h
  rw [List.getElem?_map, Option.map_eq_some_iff] at h
  obtain ⟨n, h1, h2⟩ := h
  exact ⟨n, h1, h2.symm⟩
theorem lc_rfilt {m : Int} {n v : Nat} {tt : TT} {σ : L2.St} {H1 : Hp} {D : Addr} {Qd : Hp → Prop} (f : Nat → Bool) (hm : m.toNat = n) (hn : n ≤ 1000)
    (hw : ∀ x, wipe ((wipe σ [v]).set v x) [v] = wipe σ [v]) (hv : ∀ x, ((wipe σ [v]).set v x)[v]? = some x)
    (ht : ∀ (i : Nat) l (Q : Bool → Hp → Prop), i < n → Q (f i) (upd H1 D (.lst l)) → tt ((wipe σ [v]).set v (some (.int (i : Nat)))) (upd H1 D (.lst l)) Q)
    (hd : Qd (upd H1 D (.lst (nints ((List.range n).filter f))))) :
    ∃ W : Nat → Nat → Hp → Prop, (∃ k, W 0 k (upd H1 D (.lst []))) ∧ ∀ i k H, W i k H →
      ((Itr 0 m.toNat).stop i H ∧ Qd H) ∨ ((Itr 0 m.toNat).go i H ∧ ∃ Nx : Hp → Prop, (∀ H', Nx H' → ∃ k', k' < k ∧ W (i + 1) k' H') ∧ ∀ x H', (Itr 0 m.toNat).yld i H x H' → gName v x (wipe σ [v]) H' fun σ2 H2 => wipe σ2 [v] = wipe σ [v] ∧ tt σ2 H2 fun b H3 =>
        if b = true then tVar v σ2 H3 fun y H4 => ∃ acc, H4 D = some (.lst acc) ∧ acc.length < sizeLine ∧ Nx (upd H4 D (.lst (acc ++ [y]))) else Nx H3) := by
  subst hm
  refine lc_range (lo := 0) (n := m.toNat) (fun i H' => H' = upd H1 D (.lst (nints ((List.range i).filter f)))) rfl ?_ (fun H' e => by rw [e]; exact hd)
  rintro i H' hi rfl
  rw [show (0 : Int) + (i : Int) = (i : Nat) from Int.zero_add _]
  refine ⟨hw _, ht i _ _ hi ?_⟩
  rw [filter_range_succ']
  by_cases c : f i = true
  · rw [c, if_pos rfl, if_pos rfl]
    refine ⟨_, hv _, _, upd_same, ?_, ?_⟩
    · rw [nints_len]
      exact small1000 (Nat.le_trans (List.length_filter_le _ _) (by rw [List.length_range]; omega))
    · rw [upd_upd, nints_app]
      rfl
  · rw [Bool.eq_false_iff.mpr c, if_neg Bool.false_ne_true, if_neg Bool.false_ne_true, List.append_nil]
theorem lc_lfilt {K : PySem.W.Frag} {a : Addr} {l : List Nat} {v : Nat} {tt : TT} {σ : L2.St} {H1 : Hp} {D : Addr} {Qd : Hp → Prop} (f : Nat → Bool) (hn : l.length ≤ 1000) (ha : H1 a = some (.lst (nints l))) (naD : a ≠ D)
    (hw : ∀ x, wipe ((wipe σ [v]).set v x) [v] = wipe σ [v]) (hv : ∀ x, ((wipe σ [v]).set v x)[v]? = some x)
    (ht : ∀ (i k : Nat) us (Q : Bool → Hp → Prop), l[i]? = some k → Q (f k) (upd H1 D (.lst us)) → tt ((wipe σ [v]).set v (some (.int (k : Nat)))) (upd H1 D (.lst us)) Q)
    (hd : Qd (upd H1 D (.lst (nints (l.filter f))))) :
    ∃ W : Nat → Nat → Hp → Prop, (∃ k, W 0 k (upd H1 D (.lst []))) ∧ ∀ i k H, W i k H →
      ((Itl K a).stop i H ∧ Qd H) ∨ ((Itl K a).go i H ∧ ∃ Nx : Hp → Prop, (∀ H', Nx H' → ∃ k', k' < k ∧ W (i + 1) k' H') ∧ ∀ x H', (Itl K a).yld i H x H' → gName v x (wipe σ [v]) H' fun σ2 H2 => wipe σ2 [v] = wipe σ [v] ∧ tt σ2 H2 fun b H3 =>
        if b = true then tVar v σ2 H3 fun y H4 => ∃ acc, H4 D = some (.lst acc) ∧ acc.length < sizeLine ∧ Nx (upd H4 D (.lst (acc ++ [y]))) else Nx H3) := by
  refine lc_list (K := K) (a := a) (xs := nints l) (fun i H' => H' = upd H1 D (.lst (nints ((l.take i).filter f)))) rfl (fun i H' _ e => by rw [e]; exact SqL.of ((upd_ne naD).trans ha)) ?_ (fun H' e => by
    rw [e, nints_len, List.take_of_length_le (Nat.le_refl _)]
    exact hd)
  rintro i x H' hi rfl
  obtain ⟨k, hk, rfl⟩ := nints_get hi
  refine ⟨hw _, ht i k _ _ hk ?_⟩
  have il := (List.getElem?_eq_some_iff.mp hk).1
  rw [take_filter hk]
  by_cases c : f k = true
  · rw [c, if_pos rfl, if_pos rfl]
    refine ⟨_, hv _, _, upd_same, ?_, ?_⟩
    · rw [nints_len]
      exact small1000 (Nat.le_trans (List.length_filter_le _ _) (by rw [List.length_take]; omega))
    · rw [upd_upd, nints_app]
      rfl
  · rw [Bool.eq_false_iff.mpr c, if_neg Bool.false_ne_true, if_neg Bool.false_ne_true, List.append_nil]
theorem lc_rfiltS {m : Int} {n v : Nat} {tt : TT} {σ : L2.St} {H1 : Hp} {D : Addr} {Qd : Hp → Prop} (f : Nat → Bool) (hm : m.toNat = n) (hn : n ≤ 1000) (nD : H1 D = none)
    (hw : ∀ x, wipe ((wipe σ [v]).set v x) [v] = wipe σ [v]) (hv : ∀ x, ((wipe σ [v]).set v x)[v]? = some x)
    (ht : ∀ (i : Nat) H2 (Q : Bool → Hp → Prop), i < n → Same H1 H2 → (∀ H3, Same H2 H3 → Q (f i) H3) → tt ((wipe σ [v]).set v (some (.int (i : Nat)))) H2 Q)
    (hd : ∀ H', Same H1 H' → H' D = some (.lst (nints ((List.range n).filter f))) → Qd H') :
    ∃ W : Nat → Nat → Hp → Prop, (∃ k, W 0 k (upd H1 D (.lst []))) ∧ ∀ i k H, W i k H →
      ((Itr 0 m.toNat).stop i H ∧ Qd H) ∨ ((Itr 0 m.toNat).go i H ∧ ∃ Nx : Hp → Prop, (∀ H', Nx H' → ∃ k', k' < k ∧ W (i + 1) k' H') ∧ ∀ x H', (Itr 0 m.toNat).yld i H x H' → gName v x (wipe σ [v]) H' fun σ2 H2 => wipe σ2 [v] = wipe σ [v] ∧ tt σ2 H2 fun b H3 =>
        if b = true then tVar v σ2 H3 fun y H4 => ∃ acc, H4 D = some (.lst acc) ∧ acc.length < sizeLine ∧ Nx (upd H4 D (.lst (acc ++ [y]))) else Nx H3) := by
  subst hm
  refine lc_range (lo := 0) (n := m.toNat) (fun i H' => Same H1 H' ∧ H' D = some (.lst (nints ((List.range i).filter f)))) ⟨same_upd nD, upd_same⟩ ?_ (fun H' e => hd H' e.1 e.2)
  rintro i H' hi ⟨s', hD⟩
  rw [show (0 : Int) + (i : Int) = (i : Nat) from Int.zero_add _]
  refine ⟨hw _, ht i _ _ hi s' fun H3 s3 => ?_⟩
  have hD3 := s3 _ _ hD
  rw [filter_range_succ']
  by_cases c : f i = true
  · rw [c, if_pos rfl, if_pos rfl]
    refine ⟨_, hv _, _, hD3, ?_, fun b o e => ?_, ?_⟩
    · rw [nints_len]
      exact small1000 (Nat.le_trans (List.length_filter_le _ _) (by rw [List.length_range]; omega))
    · rw [upd_ne (ne_of_none e nD)]
      exact s3 _ _ (s' _ _ e)
    · rw [upd_same, nints_app]
      rfl
  · rw [Bool.eq_false_iff.mpr c, if_neg Bool.false_ne_true, if_neg Bool.false_ne_true, List.append_nil]
    exact ⟨s'.trans s3, hD3⟩
/-! ### results and lists of stops as data -/
section
open PySem.W (alike alikeAll dataLt AllAlike Sortable dataLe)
theorem plD_depth (b : Nat × Nat) : (plD b).depth ≤ 60 := by
  have e : (plD b).depth = 1 := by simp [plD, PyData.depth, PyData.depthAll]
  omega
def optD : Option (Nat × Nat) → PyData
  | none => .none
  | some s => plD s
theorem opt_dp {K : PySem.W.Frag} {H : Hp} {v : V} {o : Option (Nat × Nat)} (h : OptStop H v o) : Dp K H v (optD o) := by
  cases o with
  | none =>
    obtain rfl : v = .non := h
    exact .non
  | some s => exact stop_dp h
theorem optD_shaped (o : Option (Nat × Nat)) : PySem.SeqAt.shaped (optD o) = true := by
  cases o with
  | none => rfl
  | some s => exact plD_shaped s
theorem optD_eqv (a b : Option (Nat × Nat)) : PyData.eqv (optD a) (optD b) = decide (a = b) := by
  cases a with
  | none =>
    cases b with
    | none => simp [optD, PyData.eqv]
    | some t => simp [optD, plD, PyData.eqv]
  | some s =>
    cases b with
    | none => simp [optD, plD, PyData.eqv]
    | some t =>
      show PyData.eqv (plD s) (plD t) = _
      rw [plD_eqv]
      by_cases c : s = t
      · rw [decide_eq_true c, decide_eq_true (by rw [c])]
      · rw [decide_eq_false c, decide_eq_false fun e => c (Option.some.inj e)]
theorem plA_eqv : ∀ a b : List (Nat × Nat), PyData.eqvAll (a.map plD) (b.map plD) = decide (a = b)
  | [], [] => by simp [PyData.eqvAll]
  | [], _ :: _ => by simp [PyData.eqvAll]
  | _ :: _, [] => by simp [PyData.eqvAll]
  | x :: xs, y :: ys => by
    rw [List.map_cons, List.map_cons, PySem.W.eqv_all_cons, plD_eqv, plA_eqv xs ys]
    by_cases h1 : x = y <;> by_cases h2 : xs = ys <;> simp [h1, h2]
theorem plL_eqv (a b : List (Nat × Nat)) : PyData.eqv (.list (a.map plD)) (.list (b.map plD)) = decide (a = b) := by
  rw [← plA_eqv]
  simp [PyData.eqv]
theorem pl_any (l : List (Nat × Nat)) (s : Nat × Nat) : ((l.map plD).any fun z => PyData.eqv z (plD s)) = decide (s ∈ l) := by
  induction l with
  | nil => simp
  | cons a l ih =>
    rw [List.map_cons, List.any_cons, ih, plD_eqv]
    by_cases h1 : a = s <;> by_cases h2 : s ∈ l <;> simp [h1, h2]
    exact fun e => h1 e.symm
end
theorem ints_empty (l : List Nat) : (!PyData.eqv (.list ((l.map fun (n : Nat) => (n : Int)).map PyData.int)) (.list [])) = !l.isEmpty := by
  cases l <;> rfl
theorem ints_empty' (l : List Nat) : PyData.eqv (.list ((l.map fun (n : Nat) => (n : Int)).map PyData.int)) (.list []) = l.isEmpty := by
  cases l <;> rfl
theorem dec_le {a b : Nat} : decide ((a : Int) ≤ (b : Int)) = decide (a ≤ b) := by
  by_cases c : a ≤ b
  · rw [decide_eq_true c, decide_eq_true (by omega)]
  · rw [decide_eq_false c, decide_eq_false (by omega)]
theorem dec_intV {a b : Nat} : decide (V.int (a : Int) = V.int (b : Int)) = decide (a = b) := by
  by_cases c : a = b
  · rw [decide_eq_true c, decide_eq_true (by rw [c])]
  · rw [decide_eq_false c, decide_eq_false fun y => c (by have := V.int.inj y; omega)]
def tNotN (t : TE) : TT := tTest (tOp (fun x y H Q => y = V.non ∧ Q (V.bl (!decide (x = .non))) H) t (tC .non))
theorem Paired.app {α β : Type} {F : α → β → Prop} : ∀ {a : List α} {b : List β} {c : List α} {d : List β}, Paired F a b → Paired F c d → Paired F (a ++ c) (b ++ d)
  | _, _, _, _, .nil, q => q
  | _, _, _, _, .cons r t, q => .cons r (Paired.app t q)
/-! ### slices and sums of tuples -/
theorem slA_case {K : PySem.W.Frag} {t0 : Addr} {ts : List V} {lo hi : Option Int} {H : Hp} {Q : VK} (ht : H t0 = some (.tup ts)) (h : ∀ b H', Same H H' → H' b = some (.tup (cutV ts lo hi)) → Q (.ref b) H') : rSlA K (.ref t0) lo hi H Q := by
  refine ⟨t0, ts, rfl, SqT.of ht, fun hf => h t0 H (.refl H) ?_, fun hn p np => h p _ (same_upd np) upd_same⟩
  unfold cutV
  rw [hf.1, hf.2, List.drop_zero, Nat.sub_zero, List.take_of_length_le (Nat.le_refl _)]
  exact ht
theorem catA_case {K : PySem.W.Frag} {a b : Addr} {xs ys : List V} {H : Hp} {Q : VK} (ha : H a = some (.tup xs)) (hb : H b = some (.tup ys)) (hl : xs.length + ys.length ≤ sizeLine) (h : ∀ c H', Same H H' → H' c = some (.tup (xs ++ ys)) → Q (.ref c) H') : rCatA K (.ref a) (.ref b) H Q := by
  refine ⟨a, b, xs, ys, rfl, rfl, SqT.of ha, SqT.of hb, hl, fun e => ?_, fun _ e => ?_, fun _ _ p np => h p _ (same_upd np) upd_same⟩
  · subst e
    exact h b H (.refl H) hb
  · subst e
    rw [List.append_nil] at h
    exact h a H (.refl H) ha
/-- the orders but the k-th -/
def wo (os : List Od) (k : Nat) : List Od := os.take k ++ os.drop (k + 1)
theorem wo_ok {p h k : Nat} {os : List Od} (ok : NetOk p h os) : NetOk p h (wo os k) := by
  refine { ok with len := ?_, ok := fun o ho => ?_ }
  · unfold wo
    rw [List.length_append, List.length_take, List.length_drop]
    have := ok.len
    omega
  · rcases List.mem_append.mp ho with z | z
    · exact ok.ok o (List.mem_of_mem_take z)
    · exact ok.ok o (List.mem_of_mem_drop z)
abbrev s_with_order : Stmt := top 39
abbrev N_with_order : List Str := ["orders", "index", "order"]
abbrev P_with_order : List Str := ["orders", "index", "order"]
theorem sc_with_order : FnScope N_with_order P_with_order (defScope s_with_order) := ⟨rfl, rfl, rfl, by decide +kernel, rfl, by decide +kernel, by decide +kernel⟩
/-! ### a tuple with another value in place of one -/
def spWith : Sp := fun vs H Q _ => ∃ (t : Addr) (k : Nat) (ts : List V) (v : V), vs = [.ref t, .int k, v] ∧ H t = some (.tup ts) ∧ ts.length ≤ 900 ∧
  ∀ H' c, Same H H' → H' c = some (.tup (ts.take k ++ [v] ++ ts.drop (k + 1))) → Q (.ref c) H'
section
variable {P : Program} {w : World} {K : PySem.W.Frag} {mg : Str → Option Value} {base : Heap}
theorem ok_with {f : Addr} {fd : FuncData} (F : Fun K "with_order" "with_order" s_with_order f fd) : FnOk P w K mg base CX0 1 f fd P_with_order spWith := by
  refine F.ok sc_with_order (fun vs H Q E h => ?_) (fun cdv A outer s H vs Q E hr h => ?_)
  · obtain ⟨t, k, ts, v, rfl, _⟩ := h
    rfl
  · obtain ⟨t, k, ts, v, rfl, ht, tl, q⟩ := h
    refine ⟨_, pss_one (ps_ret (pe_op op_catA (pe_op op_catA (pe_slice sl_tupA (pv 0) po_none (po_some (pv 1))) (pe_tup (pa_cons (pv 2) pa_nil))) (pe_slice sl_tupA (pv 0) (po_some (pe_op op_add (pv 1) pe_int)) po_none))), ?_⟩
    refine ⟨_, rfl, _, rfl, (k : Nat), rfl, ?_⟩
    refine slA_case ht fun b H1 s1 hb => ?_
    rw [cut_to] at hb
    have ht1 := s1 _ _ ht
    refine ⟨_, rfl, (by show 1 ≤ sizeLine; decide), fun u nu => ?_⟩
    have su := same_upd (o := HO.tup [v]) nu
    refine catA_case (su _ _ hb) upd_same (by rw [List.length_take]; exact Nat.le_of_lt (small1000 (by show _ + 1 ≤ _; omega))) fun c H2 s2 hc => ?_
    have s12 := su.trans s2
    refine ⟨_, rfl, _, rfl, _, _, rfl, rfl, (k : Int) + 1, rfl, ?_⟩
    unfold tNoPart
    refine slA_case (lo := some ((k : Int) + 1)) (hi := none) (s12 _ _ ht1) fun b2 H3 s3 hb2 => ?_
    rw [show ((k : Int) + 1) = ((k + 1 : Nat) : Int) from rfl, cut_from] at hb2
    exact catA_case (s3 _ _ hc) hb2 (by rw [List.length_append, List.length_take, List.length_drop]; exact Nat.le_of_lt (small1000 (by show _ + 1 + _ ≤ _; omega))) fun c2 H4 s4 hc2 => q H4 c2 (s1.trans (s12.trans (s3.trans s4))) hc2
end
/-! ### slices and sums of lists -/
theorem slL_case {K : PySem.W.Frag} {a : Addr} {xs : List V} {lo hi : Option Int} {H : Hp} {Q : VK} (ha : H a = some (.lst xs)) (h : ∀ b H', Same H H' → H b = none → H' b = some (.lst (cutV xs lo hi)) → Q (.ref b) H') : rSlL K (.ref a) lo hi H Q :=
  ⟨a, xs, rfl, SqL.of ha, fun p np => h p _ (same_upd np) np upd_same⟩
theorem catL_case {a b : Addr} {xs ys : List V} {H : Hp} {Q : VK} (ha : H a = some (.lst xs)) (hb : H b = some (.lst ys)) (hl : xs.length + ys.length ≤ sizeLine) (h : ∀ c H', Same H H' → H c = none → H' c = some (.lst (xs ++ ys)) → Q (.ref c) H') : rCat (.ref a) (.ref b) H Q :=
  ⟨a, b, xs, ys, rfl, rfl, ha, hb, hl, fun p np => h p _ (same_upd np) np upd_same⟩
theorem Paired.setAt {α β : Type} {F : α → β → Prop} {x : α} {y : β} : ∀ {l1 : List α} {l2 : List β} (k : Nat), Paired F l1 l2 → F x y → Paired F (l1.set k x) (l2.set k y)
  | _, _, _, .nil, _ => .nil
  | _, _, 0, .cons _ t, q => .cons q t
  | _, _, k + 1, .cons r t, q => .cons r (Paired.setAt k t q)
/-! ### delivered by a day, on a day -/
def byDay (p h : Nat) (os : List Od) (day : Nat) (s : Nat × Nat) : Bool := match dst p h os s with
  | none => false
  | some c => decide (c.2 ≤ day)
def onDayB (p h : Nat) (os : List Od) (day : Nat) (s : Nat × Nat) : Bool := match dst p h os s with
  | none => false
  | some c => decide (c.2 = day)
theorem byDay_some {p h day : Nat} {os : List Od} {s c : Nat × Nat} (e : dst p h os s = some c) : byDay p h os day s = decide ((c.2 : Int) ≤ (day : Int)) := by
  unfold byDay
  rw [e, dec_le]
theorem onDay_some {p h day : Nat} {os : List Od} {s c : Nat × Nat} (e : dst p h os s = some c) : onDayB p h os day s = decide (V.int (c.2 : Int) = V.int (day : Int)) := by
  unfold onDayB
  rw [e, dec_intV]
theorem odK {p h s t f n e : Nat} (h1 : s < h) (h2 : t < h) (h3 : s ≠ t) (h4 : f < p) (h5 : 1 ≤ n) (h6 : n ≤ p) (h7 : 1 ≤ e) (h8 : e ≤ 9) : OdOk p h ⟨s, t, f, n, e⟩ := ⟨h1, h2, h3, h4, h5, h6, h7, h8⟩
/-! ### words and numbers -/
def digB (w : Str) : Bool := Txt.isascii w && Txt.isdigit w
def numB (w : Str) : Bool := digB w && (decide (w = "0") || (decide (w.length ≤ 3) && !decide (w.cps.toList.head? = some 48)))
/-- a word, and the number that it is, if it is one -/
structure Wk (w : Str) (v : Option Nat) : Prop where
  num : numB w = v.isSome
  int : ∀ n, v = some n → PySem.intText? w = some (n : Int)
  len : w.length ≤ 640
/-! ### numbers as texts -/
def nT (n : Nat) : Str := Str.ofString (toString (n : Int))
def nTok (n : Nat) : Bool := numB (nT n) && decide (PySem.intText? (nT n) = some (n : Int)) && decide ((nT n).length ≤ 2) && (nT n).cps.all (fun c => decide (48 ≤ c ∧ c ≤ 57))
theorem nTok_all : (List.range 31).all nTok = true := by decide +kernel
theorem nT_ok {n : Nat} (h : n ≤ 30) : numB (nT n) = true ∧ PySem.intText? (nT n) = some (n : Int) ∧ (nT n).length ≤ 2 ∧ ∀ c ∈ (nT n).cps.toList, 48 ≤ c ∧ c ≤ 57 := by
  have h1 := List.all_eq_true.mp nTok_all n (List.mem_range.mpr (by omega))
  unfold nTok at h1
  rw [Bool.and_eq_true, Bool.and_eq_true, Bool.and_eq_true] at h1
  obtain ⟨⟨⟨a, b⟩, c⟩, d⟩ := h1
  refine ⟨a, of_decide_eq_true b, of_decide_eq_true c, fun x hx => ?_⟩
  have := Array.all_eq_true_iff_forall_mem.mp d x (Array.mem_toList_iff.mp hx)
  exact of_decide_eq_true this
/-! ### texts of nets: plain mathematics -/
theorem mem_joinL {S : List Nat} {x : Nat} : ∀ {parts : List (List Nat)}, x ∈ TL.joinL S parts → x ∈ S ∨ ∃ p ∈ parts, x ∈ p
  | [], h => by cases h
  | [p], h => .inr ⟨p, List.mem_singleton.mpr rfl, h⟩
  | p :: q :: r, h => by
    rcases List.mem_append.mp (show x ∈ p ++ (S ++ TL.joinL S (q :: r)) from h) with h | h
    · exact .inr ⟨p, List.mem_cons_self, h⟩
    · rcases List.mem_append.mp h with h | h
      · exact .inl h
      · rcases mem_joinL h with h | ⟨z, hz, h⟩
        · exact .inl h
        · exact .inr ⟨z, List.mem_cons_of_mem _ hz, h⟩
theorem mem_join {y : Str} {x : Nat} {parts : List Str} (h : x ∈ TL.tl (Txt.join y parts)) : x ∈ TL.tl y ∨ ∃ p ∈ parts, x ∈ TL.tl p := by
  rw [TL.join_eq, TL.tl_join] at h
  rcases mem_joinL h with h | ⟨z, hz, h⟩
  · exact .inl h
  · obtain ⟨p, hp, rfl⟩ := List.mem_map.mp hz
    exact .inr ⟨p, hp, h⟩
theorem len_joinL {S : List Nat} : ∀ parts : List (List Nat), (TL.joinL S parts).length ≤ (parts.map List.length).sum + parts.length * S.length
  | [] => Nat.zero_le _
  | [p] => by
    show p.length ≤ _
    simp
  | p :: q :: r => by
    have ih := len_joinL (S := S) (q :: r)
    show (p ++ (S ++ TL.joinL S (q :: r))).length ≤ _
    rw [List.length_append, List.length_append, List.map_cons, List.sum_cons, List.length_cons, Nat.succ_mul]
    omega
theorem len_join {y : Str} (parts : List Str) : (Txt.join y parts).length ≤ (parts.map (·.length)).sum + parts.length * y.length := by
  have h := len_joinL (S := TL.tl y) (parts.map TL.tl)
  rw [TL.len_tl, TL.join_eq, TL.tl_join, TL.len_tl y]
  rw [List.map_map, List.length_map] at h
  exact h
def wordsO (o : Od) : List Str := [nT o.s, nT o.t, nT o.f, nT o.n, nT o.e]
def lineNet (p h : Nat) : Str := Txt.join " " [("net" : Str), nT p, nT h]
def lineOrd (o : Od) : Str := Txt.join " " (("order" : Str) :: wordsO o)
def linesOf (p h : Nat) (os : List Od) : List Str := lineNet p h :: os.map lineOrd
def textOf (p h : Nat) (os : List Od) : Str := Txt.join "\n" (linesOf p h os)
/-- a word of digits or letters -/
def Plain (w : Str) : Prop := ∀ c ∈ TL.tl w, 33 ≤ c
theorem nT_plain {n : Nat} (h : n ≤ 30) : Plain (nT n) := fun c hc => by
  have := (nT_ok h).2.2.2 c hc
  omega
theorem net_plain : Plain "net" := by
  unfold Plain
  decide +kernel
theorem order_plain : Plain "order" := by
  unfold Plain
  decide +kernel
theorem od_le {p h : Nat} {os : List Od} {o : Od} (k : NetOk p h os) (ho : o ∈ os) : o.s ≤ 30 ∧ o.t ≤ 30 ∧ o.f ≤ 30 ∧ o.n ≤ 30 ∧ o.e ≤ 30 := by
  have a := k.ok o ho
  have := a.s; have := a.t; have := a.f; have := a.n; have := a.e; have := k.p30; have := k.h10
  omega
theorem wordsO_plain {p h : Nat} {os : List Od} {o : Od} (k : NetOk p h os) (ho : o ∈ os) : ∀ w ∈ wordsO o, Plain w := by
  obtain ⟨h1, h2, h3, h4, h5⟩ := od_le k ho
  intro w hw
  unfold wordsO at hw
  simp only [List.mem_cons, List.not_mem_nil, or_false] at hw
  rcases hw with rfl | rfl | rfl | rfl | rfl
  · exact nT_plain h1
  · exact nT_plain h2
  · exact nT_plain h3
  · exact nT_plain h4
  · exact nT_plain h5
theorem split_words {ws : List Str} (hne : ws ≠ []) (h : ∀ w ∈ ws, Plain w) : Txt.split (Txt.join " " ws) " " = ws :=
  TL.split_join (s := 32) (S := []) (by decide +kernel) (by decide +kernel) hne fun w hw hc => by
    have := h w hw 32 hc
    omega
theorem line_free {ws : List Str} (h : ∀ w ∈ ws, Plain w) : 10 ∉ TL.tl (Txt.join " " ws) := fun hc => by
  rcases mem_join hc with h1 | ⟨w, hw, h1⟩
  · have : TL.tl " " = [32] := by decide +kernel
    rw [this] at h1
    simp at h1
  · have := h w hw 10 h1
    omega
theorem split_lines {ls : List Str} (hne : ls ≠ []) (h : ∀ l ∈ ls, 10 ∉ TL.tl l) : Txt.split (Txt.join "\n" ls) "\n" = ls :=
  TL.split_join (s := 10) (S := []) (by decide +kernel) (by decide +kernel) hne h
theorem split_net {p h : Nat} (hp : p ≤ 30) (hh : h ≤ 30) : Txt.split (lineNet p h) " " = [("net" : Str), nT p, nT h] := split_words (by simp) fun w hw => by
  simp only [List.mem_cons, List.not_mem_nil, or_false] at hw
  rcases hw with rfl | rfl | rfl
  · exact net_plain
  · exact nT_plain hp
  · exact nT_plain hh
theorem split_ord {p h : Nat} {os : List Od} {o : Od} (k : NetOk p h os) (ho : o ∈ os) : Txt.split (lineOrd o) " " = ("order" : Str) :: wordsO o := split_words (by simp) fun w hw => by
  rcases List.mem_cons.mp hw with rfl | hw
  · exact order_plain
  · exact wordsO_plain k ho w hw
theorem split_text {p h : Nat} {os : List Od} (k : NetOk p h os) : Txt.split (textOf p h os) "\n" = linesOf p h os := split_lines (by unfold linesOf; simp) fun l hl => by
  have := k.p30; have := k.h10
  rcases List.mem_cons.mp hl with rfl | hl
  · refine line_free fun w hw => ?_
    simp only [List.mem_cons, List.not_mem_nil, or_false] at hw
    rcases hw with rfl | rfl | rfl
    · exact net_plain
    · exact nT_plain (by omega)
    · exact nT_plain (by omega)
  · obtain ⟨o, ho, rfl⟩ := List.mem_map.mp hl
    refine line_free fun w hw => ?_
    rcases List.mem_cons.mp hw with rfl | hw
    · exact order_plain
    · exact wordsO_plain k ho w hw
theorem len_net {p h : Nat} (hp : p ≤ 30) (hh : h ≤ 30) : (lineNet p h).length ≤ 20 := by
  refine Nat.le_trans (len_join _) ?_
  have h1 := (nT_ok hp).2.2.1
  have h2 := (nT_ok hh).2.2.1
  have h3 : ("net" : Str).length = 3 := by decide +kernel
  have h4 : (" " : Str).length = 1 := by decide +kernel
  simp [h3, h4]
  omega
theorem len_ord {p h : Nat} {os : List Od} {o : Od} (k : NetOk p h os) (ho : o ∈ os) : (lineOrd o).length ≤ 30 := by
  refine Nat.le_trans (len_join _) ?_
  obtain ⟨h1, h2, h3, h4, h5⟩ := od_le k ho
  have a1 := (nT_ok h1).2.2.1
  have a2 := (nT_ok h2).2.2.1
  have a3 := (nT_ok h3).2.2.1
  have a4 := (nT_ok h4).2.2.1
  have a5 := (nT_ok h5).2.2.1
  have a6 : ("order" : Str).length = 5 := by decide +kernel
  have a7 : (" " : Str).length = 1 := by decide +kernel
  unfold wordsO
  simp [a6, a7]
  omega
theorem lines_len {p h : Nat} {os : List Od} (k : NetOk p h os) : ∀ l ∈ linesOf p h os, l.length ≤ 30 := fun l hl => by
  have := k.p30; have := k.h10
  rcases List.mem_cons.mp hl with rfl | hl
  · exact Nat.le_trans (len_net (by omega) (by omega)) (by decide)
  · obtain ⟨o, ho, rfl⟩ := List.mem_map.mp hl
    exact len_ord k ho
theorem sum_le {l : List Nat} {m : Nat} (h : ∀ x ∈ l, x ≤ m) : l.sum ≤ l.length * m := by
  induction l with
  | nil => exact Nat.zero_le _
  | cons a l ih =>
    rw [List.sum_cons, List.length_cons, Nat.succ_mul]
    have := ih fun x hx => h x (List.mem_cons_of_mem _ hx)
    have := h a List.mem_cons_self
    omega
theorem lines_sum {p h : Nat} {os : List Od} (k : NetOk p h os) : ((linesOf p h os).map (·.length)).sum ≤ 630 := by
  refine Nat.le_trans (sum_le (m := 30) fun x hx => ?_) ?_
  · obtain ⟨l, hl, rfl⟩ := List.mem_map.mp hx
    exact lines_len k l hl
  · rw [List.length_map]
    show (os.map lineOrd).length.succ * 30 ≤ 630
    rw [List.length_map]
    have := k.len
    omega
theorem len_text {p h : Nat} {os : List Od} (k : NetOk p h os) : (textOf p h os).length ≤ 700 := by
  refine Nat.le_trans (len_join _) ?_
  have h1 := lines_sum k
  have h2 : ("\n" : Str).length = 1 := by decide +kernel
  have h3 : (linesOf p h os).length ≤ 21 := by
    show (os.map lineOrd).length.succ ≤ 21
    rw [List.length_map]
    have := k.len
    omega
  rw [h2]
  omega
theorem wk_nT {n : Nat} (h : n ≤ 30) : Wk (nT n) (some n) := ⟨(nT_ok h).1, fun m e => by
  cases e
  exact (nT_ok h).2.1, by have := (nT_ok h).2.2.1; omega⟩
/-- joined words, one behind the other -/
theorem join3 (a b c : Str) : Txt.join " " [a, b, c] = a ++ " " ++ b ++ " " ++ c := by
  rw [TL.join_eq]
  refine TL.ext_tl ?_
  rw [TL.tl_join]
  simp [TL.joinL, TL.tl_append]
theorem join6 (a b c d e f : Str) : Txt.join " " [a, b, c, d, e, f] = a ++ " " ++ b ++ " " ++ c ++ " " ++ d ++ " " ++ e ++ " " ++ f := by
  rw [TL.join_eq]
  refine TL.ext_tl ?_
  rw [TL.tl_join]
  simp [TL.joinL, TL.tl_append]
theorem cat_net : (Str.empty ++ "net " : Str) = "net" ++ " " := by decide +kernel
theorem cat_order : (Str.empty ++ "order " : Str) = "order" ++ " " := by decide +kernel
theorem cat_net' : ("net " : Str) = "net" ++ " " := by decide +kernel
abbrev s_Net_text : Stmt := inClass (top 36) 5
abbrev N_Net_text : List Str := ["self", "lines", "source", "target", "first", "days", "delay"]
abbrev P_Net_text : List Str := ["self"]
theorem sc_Net_text : FnScope N_Net_text P_Net_text (defScope s_Net_text) := ⟨rfl, rfl, rfl, by decide +kernel, rfl, by decide +kernel, by decide +kernel⟩
/-! ### the text of a net -/
section
variable {P : Program} {w : World} {K : PySem.W.Frag} {mg : Str → Option Value} {base : Heap}
/-- the text of a net -/
def spText (C : Addr) : Sp := fun vs H Q _ => ∃ (x t : Addr) (p h : Nat) (os : List Od) (F : List Addr), vs = [.ref x] ∧ NetAt C H x p h os t F ∧ NetOk p h os ∧ ∀ H', Same H H' → Q (.str (textOf p h os)) H'
theorem log_small {n : Nat} (h : n ≤ 30) : ((n : Int)).natAbs.log2 < 1920 := by
  have : ((n : Int)).natAbs = n := Int.natAbs_natCast n
  rw [this]
  by_cases c : n = 0
  · subst c; decide
  · have h1 : n.log2 < 5 := (Nat.log2_lt c).mpr (Nat.lt_of_le_of_lt h (by decide))
    omega
theorem len_app (a b : Str) : (a ++ b).length = a.length + b.length := by
  rw [TL.len_tl, TL.tl_append, List.length_append, ← TL.len_tl, ← TL.len_tl]
theorem len_sp : (" " : Str).length = 1 := by decide +kernel
theorem len_net4 : (Str.empty ++ ("net " : Str)).length = 4 := by decide +kernel
theorem len_ord6 : (Str.empty ++ ("order " : Str)).length = 6 := by decide +kernel
theorem ok_text {f C : Addr} {fd : FuncData} (F : Fun K "text" "Net.text" s_Net_text f fd) (T : NetT K C) : FnOk P w K mg base CX0 2 f fd P_Net_text (spText C) := by
  refine F.ok sc_Net_text (fun vs H Q E h => ?_) (fun cdv A outer s H vs Q E hr h => ?_)
  · obtain ⟨x, t, p, h, os, F, rfl, _⟩ := h
    rfl
  · obtain ⟨x, t, p, h, os, F, rfl, Nt, nok, q⟩ := h
    refine ⟨_, pss_cons (ps_set (i := 1) sc_Net_text.nd rfl (.inl rfl) (pe_lst (pa_cons (pe_joined (.cons pe_str (.cons (pe_fmt (pe_fld (pv 0) rfl)) (.cons pe_str (.cons (pe_fmt (pe_fld (pv 0) rfl)) .nil))))) pa_nil)))
      (pss_cons (ps_for PassesOwn.never rfl (pi_tup (pe_fld (pv 0) rfl)) (pg_tup (by rfl) (pgs_cons (pg_name (i := 2) sc_Net_text.nd rfl (.inl rfl)) (pgs_cons (pg_name (i := 3) sc_Net_text.nd rfl (.inl rfl)) (pgs_cons (pg_name (i := 4) sc_Net_text.nd rfl (.inl rfl)) (pgs_cons (pg_name (i := 5) sc_Net_text.nd rfl (.inl rfl)) (pgs_cons (pg_name (i := 6) sc_Net_text.nd rfl (.inl rfl)) pgs_nil))))))
        (pss_one (ps_expr (pe_bm PySem.F.plainAttrs_list PySem.F.slot_list_append PySem.F.type_list_append mt_append (pv 1) (pa_cons (pe_joined (.cons pe_str (.cons (pe_fmt (pv 2)) (.cons pe_str (.cons (pe_fmt (pv 3)) (.cons pe_str (.cons (pe_fmt (pv 4)) (.cons pe_str (.cons (pe_fmt (pv 5)) (.cons pe_str (.cons (pe_fmt (pv 6)) .nil))))))))))) pa_nil)))))
      (pss_one (ps_ret (pe_join pe_str (pv 1))))), ?_⟩
    obtain ⟨dx, fl, as, _, hx, ⟨ts, ht, hP⟩, _⟩ := id Nt
    have p30 := nok.p30; have h10 := nok.h10; have ol := nok.len
    have hp2 := (nT_ok p30).2.2.1
    have hh2 := (nT_ok (show h ≤ 30 by omega)).2.2.1
    refine ⟨_, rfl, by rw [len_net4, sizeLine_eq]; omega, ?_⟩
    refine ⟨_, rfl, x, C, dx, _, _, rfl, hx, T.cl, T.nP, nf_pe, .inr ⟨_, rfl, log_small p30, nT p, rfl, ?_, ?_⟩⟩
    · rw [len_app, len_net4, sizeLine_eq]
      omega
    refine ⟨_, rfl, ?_, ?_⟩
    · rw [len_app, len_app, len_net4, len_sp, sizeLine_eq]
      omega
    refine ⟨_, rfl, x, C, dx, _, _, rfl, hx, T.cl, T.nH, nf_ho, .inr ⟨_, rfl, log_small (show h ≤ 30 by omega), nT h, rfl, ?_, ?_⟩⟩
    · rw [len_app, len_app, len_app, len_net4, len_sp, sizeLine_eq]
      omega
    have e1 : (((Str.empty ++ "net " : Str) ++ nT p) ++ " ") ++ nT h = lineNet p h := by
      unfold lineNet
      rw [join3, cat_net]
    refine ⟨(by show 1 ≤ sizeLine; decide), fun L nL => ?_⟩
    rw [show (V.str ((((Str.empty ++ "net ") ++ nT p) ++ " ") ++ nT h)) = V.str (lineNet p h) by rw [e1]]
    have s1 := same_upd (o := HO.lst [.str (lineNet p h)]) nL
    refine ⟨_, rfl, x, C, dx, _, _, rfl, s1 _ _ hx, T.cl, T.nO, nf_or, t, rfl, ⟨_, SqT.of (s1 _ _ ht)⟩, ?_⟩
    refine for_tup (K := K) (a := t) (xs := ts) (fun i σ H' => (∃ x2 x3 x4 x5 x6, σ = [some (.ref x), some (.ref L), x2, x3, x4, x5, x6]) ∧ H' = upd H L (.lst ((lineNet p h :: (os.take i).map lineOrd).map V.str)))
      ⟨⟨_, _, _, _, _, rfl⟩, rfl⟩ (fun i σ H' _ ⟨_, e⟩ => by rw [e]; exact SqT.of (same_upd nL _ _ ht)) ?_ ?_
    · rintro i v σ H1 hi ⟨⟨x2, x3, x4, x5, x6, rfl⟩, rfl⟩
      have hl := hP.length
      have lt : i < os.length := by rw [← hl]; exact (List.getElem?_eq_some_iff.mp hi).1
      have ei := List.getElem?_eq_getElem lt
      obtain ⟨v', hv', u, ev, hu⟩ := Paired.get? (i := i) hP ei
      obtain rfl : v' = v := Option.some.inj (hv'.symm.trans hi)
      subst ev
      have hmem := List.mem_of_getElem? ei
      generalize os[i] = o at ei hu hmem
      obtain ⟨b1, b2, b3, b4, b5⟩ := od_le nok hmem
      have c1 := (nT_ok b1).2.2.1
      have c2 := (nT_ok b2).2.2.1
      have c3 := (nT_ok b3).2.2.1
      have c4 := (nT_ok b4).2.2.1
      have c5 := (nT_ok b5).2.2.1
      have sL := same_upd (o := HO.lst ((lineNet p h :: (os.take i).map lineOrd).map V.str)) nL
      refine ⟨u, _, rfl, SqT.of (sL _ _ hu), rfl, _, _, rfl, _, _, rfl, _, _, rfl, _, _, rfl, _, _, rfl, rfl, ?_⟩
      refine ⟨_, rfl, .inl ⟨rfl, _, SqL.of upd_same⟩, ?_⟩
      refine ⟨_, rfl, by rw [len_ord6, sizeLine_eq]; omega, _, rfl, .inr ⟨_, rfl, log_small b1, nT o.s, rfl, by rw [len_app, len_ord6, sizeLine_eq]; omega, _, rfl, by rw [len_app, len_app, len_ord6, len_sp, sizeLine_eq]; omega, ?_⟩⟩
      refine ⟨_, rfl, .inr ⟨_, rfl, log_small b2, nT o.t, rfl, by rw [len_app, len_app, len_app, len_ord6, len_sp, sizeLine_eq]; omega, _, rfl, by rw [len_app, len_app, len_app, len_app, len_ord6, len_sp, sizeLine_eq]; omega, ?_⟩⟩
      refine ⟨_, rfl, .inr ⟨_, rfl, log_small b3, nT o.f, rfl, by rw [len_app, len_app, len_app, len_app, len_app, len_ord6, len_sp, sizeLine_eq]; omega, _, rfl, by rw [len_app, len_app, len_app, len_app, len_app, len_app, len_ord6, len_sp, sizeLine_eq]; omega, ?_⟩⟩
      refine ⟨_, rfl, .inr ⟨_, rfl, log_small b4, nT o.n, rfl, by rw [len_app, len_app, len_app, len_app, len_app, len_app, len_app, len_ord6, len_sp, sizeLine_eq]; omega, _, rfl, by rw [len_app, len_app, len_app, len_app, len_app, len_app, len_app, len_app, len_ord6, len_sp, sizeLine_eq]; omega, ?_⟩⟩
      refine ⟨_, rfl, .inr ⟨_, rfl, log_small b5, nT o.e, rfl, by rw [len_app, len_app, len_app, len_app, len_app, len_app, len_app, len_app, len_app, len_ord6, len_sp, sizeLine_eq]; omega, ?_⟩⟩
      refine ⟨L, _, _, rfl, rfl, upd_same, ?_, ⟨_, _, _, _, _, rfl⟩, ?_⟩
      · rw [List.length_map, List.length_cons, List.length_map, List.length_take]
        exact small1000 (by omega)
      · rw [upd_upd, List.take_add_one, ei]
        have e2 : ((((((((((Str.empty ++ "order " : Str) ++ nT o.s) ++ " ") ++ nT o.t) ++ " ") ++ nT o.f) ++ " ") ++ nT o.n) ++ " ") ++ nT o.e) = lineOrd o := by
          unfold lineOrd wordsO
          rw [join6, cat_order]
        show upd H L (.lst (((lineNet p h :: (os.take i).map lineOrd).map V.str) ++ [V.str ((((((((((Str.empty ++ "order " : Str) ++ nT o.s) ++ " ") ++ nT o.t) ++ " ") ++ nT o.f) ++ " ") ++ nT o.n) ++ " ") ++ nT o.e)])) = _
        rw [e2, Option.toList_some, List.map_append, List.map_cons, List.map_cons, List.map_append]
        rfl
    · rintro σ H1 ⟨⟨x2, x3, x4, x5, x6, rfl⟩, rfl⟩
      rw [hP.length, List.take_length]
      refine ⟨⟨_, rfl⟩, _, rfl, "\n", L, linesOf p h os, rfl, rfl, .inl (SqL.of upd_same), ?_, q _ (same_upd nL)⟩
      have h1 := lines_sum nok
      have h2 : ("\n" : Str).length = 1 := by decide +kernel
      have h3 : (linesOf p h os).length ≤ 21 := by
        show (os.map lineOrd).length.succ ≤ 21
        rw [List.length_map]
        omega
      rw [h2]
      omega
end
abbrev s_result_on : Stmt := top 30
abbrev N_result_on : List Str := ["day", "way", "goal", "days"]
abbrev P_result_on : List Str := ["day", "way"]
theorem sc_result_on : FnScope N_result_on P_result_on (defScope s_result_on) := ⟨rfl, rfl, rfl, by decide +kernel, rfl, by decide +kernel, by decide +kernel⟩
/-! ### a result on a day -/
def spResOn : Sp := fun vs H Q _ => ∃ (day : Nat) (v : V) (o : Option (Nat × Nat)), vs = [.int day, v] ∧ OptStop H v o ∧ ∀ H' v', Same H H' → OptStop H' v' (o.map fun g => (g.1, day + g.2)) → Q v' H'
section
variable {P : Program} {w : World} {K : PySem.W.Frag} {mg : Str → Option Value} {base : Heap}
theorem ok_res_on {f : Addr} {fd : FuncData} (F : Fun K "result_on" "result_on" s_result_on f fd) : FnOk P w K mg base CX0 2 f fd P_result_on spResOn := by
  refine F.ok sc_result_on (fun vs H Q E h => ?_) (fun cdv A outer s H vs Q E hr h => ?_)
  · obtain ⟨day, v, o, rfl, _⟩ := h
    rfl
  · obtain ⟨day, v, o, rfl, hv, q⟩ := h
    refine ⟨_, pss_cons (ps_if (pt_cmpR op_isN (pv 1) pe_non (nomark _)) (pss_one (ps_ret pe_non)) pss_nil)
      (pss_cons (ps_asg (pv 1) (pg_tup (by rfl) (pgs_cons (pg_name (i := 2) sc_result_on.nd rfl (.inl rfl)) (pgs_cons (pg_name (i := 3) sc_result_on.nd rfl (.inl rfl)) pgs_nil))))
      (pss_one (ps_ret (pe_tup (pa_cons (pv 2) (pa_cons (pe_op op_add (pv 0) (pv 3)) pa_nil)))))), ?_⟩
    refine ⟨_, rfl, rfl, _, rfl, ?_⟩
    cases o with
    | none =>
      obtain rfl : v = .non := hv
      exact iteT (q H .non (.refl H) rfl)
    | some g =>
      obtain ⟨u, rfl, hu⟩ := hv
      refine iteF ⟨_, rfl, u, _, rfl, SqT.of hu, rfl, _, _, rfl, _, _, rfl, rfl, ?_⟩
      refine ⟨_, rfl, _, rfl, _, rfl, _, _, rfl, rfl, (by show 2 ≤ sizeLine; decide), fun y ny => q _ _ (same_upd ny) ⟨y, rfl, ?_⟩⟩
      rw [upd_same]
      show some (HO.tup [V.int g.1, V.int ((day : Int) + (g.2 : Int))]) = some (HO.tup [V.int g.1, V.int ((day + g.2 : Nat) : Int)])
      rw [Int.natCast_add]
end
/-! ### a dict whose keys are None and pairs of numbers -/
section
open PySem.Spec PyProof.Rows
abbrev NK := Option (Nat × Nat)
def nkD : NK → PyData
  | none => .none
  | some q => plD q
def nkL (q : Nat × Nat) : List L2.Key := [Sum.inl (q.1 : Int), Sum.inl (q.2 : Int)]
/-- u is the key k -/
def NKey (P : Program) (w : World) (h : Heap) (k : NK) (u : Value) : Prop :=
  (k = none ∧ u = .none) ∨ ∃ q b, k = some q ∧ u = .ref b ∧ (tupleKind (mixKind P w)).is h (nkL q) b ∧ ∃ as, Reads h u (plD q) as
def nkH (P : Program) (w : World) : NK → Int
  | none => (leafKind P w).hash .none
  | some q => (tupleKind (mixKind P w)).hash (nkL q)
def nkT (P : Program) (w : World) : NK → Nat
  | none => 1
  | some q => (tupleKind (mixKind P w)).draws (nkL q)
variable {P : Program} {w : World} {A : Around} {E : Value → Shared → Prop} {s : Shared}
theorem nkD_eqv (a b : NK) : PyData.eqv (nkD a) (nkD b) = decide (a = b) := by
  cases a with
  | none => cases b <;> simp [nkD, plD, PyData.eqv]
  | some q =>
    cases b with
    | none => simp [nkD, plD, PyData.eqv]
    | some r =>
      show PyData.eqv (plD q) (plD r) = _
      rw [plD_eqv]
      by_cases c : q = r
      · rw [decide_eq_true c, decide_eq_true (by rw [c])]
      · rw [decide_eq_false c, decide_eq_false fun e => c (Option.some.inj e)]
theorem nkD_lay (a : NK) : (nkD a).canLay0 = true ∧ (nkD a).depth ≤ 1 := by
  cases a with
  | none => exact ⟨rfl, by simp [nkD, PyData.depth]⟩
  | some q => exact ⟨by simp [nkD, plD, PyData.canLay0, PyData.canLayAll0], by simp [nkD, plD, PyData.depth, PyData.depthAll]⟩
theorem NKey.reads {k : NK} {u : Value} (x : NKey P w s.heap k u) : ∃ as, Reads s.heap u (nkD k) as := by
  rcases x with ⟨rfl, rfl⟩ | ⟨q, b, rfl, rfl, _, as, h⟩
  · exact ⟨_, Reads.none⟩
  · exact ⟨as, h⟩
theorem NKey.eq {k l : NK} {u v : Value} {Q : Bool → Shared → Prop} (x : NKey P w s.heap k u) (y : NKey P w s.heap l v) (hu : A.units + 1 < cLine) (h : Q (decide (k = l)) s) : wpAny (model P w) A (eqBool u v) Q E s := by
  obtain ⟨as, ra⟩ := x.reads
  obtain ⟨bs, rb⟩ := y.reads
  have h1 := nkD_lay k
  have h2 := nkD_lay l
  exact PySem.SeqAt.eqBoolOverData P w A E s u v _ _ as bs Q ra rb h1.1 h2.1 (by omega) (by rw [nkD_eqv]; exact h)
theorem NKey.quiet {k : NK} {u : Value} {Q : Bool → Shared → Prop} (x : NKey P w s.heap k u) (h : Q true s) : wpAny (model P w) A (eqIsQuiet 8 u) Q E s := by
  rcases x with ⟨rfl, rfl⟩ | ⟨q, b, rfl, rfl, x, _⟩
  · exact wpAny_pure h
  · exact (tupleKind (mixKind P w)).quiet x h
theorem NKey.hash {k : NK} {u : Value} {Q : Int → Shared → Prop} (x : NKey P w s.heap k u) (hr : (tupleKind (mixKind P w)).room A) (h : Q (nkH P w k) { s with toks := s.toks + nkT P w k }) : wpAny (model P w) A (PySem.pyHash u) Q E s := by
  rcases x with ⟨rfl, rfl⟩ | ⟨q, b, rfl, rfl, x, _⟩
  · exact (leafKind P w).pyHash (k := .none) rfl h
  · exact (tupleKind (mixKind P w)).pyHash hr x h
theorem NKey.inj {h : Heap} {k l : NK} {u : Value} (x : NKey P w h k u) (y : NKey P w h l u) : k = l := by
  rcases x with ⟨rfl, rfl⟩ | ⟨q, b, rfl, rfl, x, _⟩
  · rcases y with ⟨rfl, _⟩ | ⟨_, _, _, e, _⟩
    · rfl
    · cases e
  · rcases y with ⟨_, e⟩ | ⟨r, c, rfl, e, y, _⟩
    · cases e
    · cases e
      have z := (tupleKind (mixKind P w)).inj x y
      unfold nkL at z
      injection z with z1 z2
      injection z2 with z2
      injection z1 with z1
      injection z2 with z2
      rw [Prod.ext (by omega : q.1 = r.1) (by omega : q.2 = r.2)]
theorem tell_quiet {u : Value} {k : NK} {st : List Value} {Q : Bool → Shared → Prop} (x : NKey P w s.heap k u) (hs : ∀ v ∈ st, ∃ l, NKey P w s.heap l v) (h : Q false s) : wpAny (model P w) A (tableMayTell u st) Q E s := by
  unfold tableMayTell
  split
  · exact wpAny_pure h
  · refine wpAny_bind (x.quiet ?_)
    simp only [Bool.not_true, Bool.false_eq_true, if_false]
    refine wpAny_bind (wpAny_forIn_list _ (fun r b t => t = s ∧ b = (none, ()) ∧ ∀ v ∈ r, ∃ l, NKey P w s.heap l v) _ (fun v r b t g => ?_) (fun b t g => ?_) _ _ ⟨rfl, rfl, hs⟩)
    · obtain ⟨rfl, rfl, g⟩ := g
      obtain ⟨l, hl⟩ := g v List.mem_cons_self
      refine wpAny_bind (hl.quiet ?_)
      simp only [Bool.not_true, Bool.false_eq_true, if_false]
      exact wpAny_pure ⟨rfl, rfl, fun z hz => g z (List.mem_cons_of_mem _ hz)⟩
    · obtain ⟨rfl, rfl, _⟩ := g
      exact wpAny_pure h
end
section
open PySem.Spec PyProof.Rows
variable {P : Program} {w : World} {A : Around} {E : Value → Shared → Prop} {s : Shared}
structure NTab (P : Program) (w : World) (h : Heap) (es : Array DictEntry) (ks : List NK) : Prop where
  sz : es.size = ks.length
  row : ∀ (j : Nat) (e : DictEntry) (k : NK), es[j]? = some e → ks[j]? = some k → e.hash = nkH P w k ∧ NKey P w h k e.key
  nd : ks.Nodup
theorem NTab.both {h : Heap} {es : Array DictEntry} {ks : List NK} (T : NTab P w h es ks) {j : Nat} (lt : j < es.size) : ∃ e k, es[j]? = some e ∧ ks[j]? = some k ∧ e.hash = nkH P w k ∧ NKey P w h k e.key := by
  have l2 : j < ks.length := by rw [← T.sz]; exact lt
  have h1 := Array.getElem?_eq_getElem lt
  have h2 := List.getElem?_eq_getElem l2
  exact ⟨_, _, h1, h2, T.row _ _ _ h1 h2⟩
def plcs (es : Array DictEntry) (H : Int) : List Nat := placesWithHash es.size (fun i => es[i]?.map (·.hash)) H
theorem plcs_mem {es : Array DictEntry} {H : Int} {j : Nat} : j ∈ plcs es H ↔ j < es.size ∧ (es[j]?).map (·.hash) = some H := by
  unfold plcs placesWithHash
  rw [List.mem_filter, List.mem_range, beq_iff_eq]
theorem plcs_nd {es : Array DictEntry} {H : Int} : (plcs es H).Nodup := List.nodup_range.filter _
theorem NTab.found {h : Heap} {es : Array DictEntry} {ks : List NK} (T : NTab P w h es ks) {j : Nat} {k : NK} (e : ks[j]? = some k) : j ∈ plcs es (nkH P w k) := by
  have lt : j < es.size := by rw [T.sz]; exact (List.getElem?_eq_some_iff.mp e).1
  obtain ⟨e', k', h1, h2, h3, _⟩ := T.both lt
  obtain rfl : k' = k := Option.some.inj (h2.symm.trans e)
  exact plcs_mem.mpr ⟨lt, by rw [h1, ← h3]; rfl⟩
theorem NTab.once {h : Heap} {es : Array DictEntry} {ks : List NK} (T : NTab P w h es ks) {i j : Nat} {k : NK} (a : ks[i]? = some k) (b : ks[j]? = some k) : i = j :=
  (List.getElem?_inj (List.getElem?_eq_some_iff.mp a).1 T.nd).mp (a.trans b.symm)
theorem nd_walk {d : Addr} {u : Value} {o : Obj} {es : Array DictEntry} {ep : Nat} {ks : List NK} {k : NK} {Q : Option Nat → Shared → Prop} (hu : A.units + 1 < cLine) (x : NKey P w s.heap k u) (ho : s.heap.get? d = some o) (hd : o.data = .dict es ep)
    (T : NTab P w s.heap es ks) (hq : ∀ r : Option Nat, (∀ j, r = some j ↔ ks[j]? = some k) → Q r s) : wpAny (model P w) A (dictWalkPlain d u (nkH P w k) es (plcs es (nkH P w k))) Q E s := by
  unfold dictWalkPlain
  refine wpAny_bind (wpAny_forIn_list _ (fun rest b t => t = s ∧ b = (none, ()) ∧ (∀ i ∈ rest, i < es.size) ∧ ∀ j, ks[j]? = some k → j ∈ rest) _ (fun i rest b t g => ?_) (fun b t g => ?_) _ _ ⟨rfl, rfl, fun i hi => (plcs_mem.mp hi).1, fun j hj => T.found hj⟩)
  · obtain ⟨rfl, rfl, g1, g2⟩ := g
    obtain ⟨e, k', h1, h2, h3, h4⟩ := T.both (g1 i List.mem_cons_self)
    rw [h1]
    dsimp only
    have skip : k' ≠ k → t = t ∧ (none, ()) = ((none, ()) : Option (Option Nat) × Unit) ∧ (∀ i ∈ rest, i < es.size) ∧ ∀ j, ks[j]? = some k → j ∈ rest := fun ne => ⟨rfl, rfl, fun i hi => g1 i (List.mem_cons_of_mem _ hi), fun j hj => by
      rcases List.mem_cons.mp (g2 j hj) with z | z
      · rw [z, h2] at hj
        exact absurd (Option.some.inj hj) ne
      · exact z⟩
    by_cases c : (e.hash == nkH P w k) = true
    · rw [if_pos c]
      refine wpAny_bind (wpAny_dictEpoch ho hd (wpAny_bind (h4.eq x hu (wpAny_bind (wpAny_dictEpoch ho hd ?_)))))
      by_cases q : k' = k
      · rw [decide_eq_true q]
        subst q
        rw [if_neg (by simp)]
        simp only [if_true]
        refine wpAny_bind (wpAny_rule (wpAny_pure ?_))
        refine wpAny_pure (hq (some i) fun j => ⟨fun z => ?_, fun z => ?_⟩)
        · cases z
          exact h2
        · rw [T.once h2 z]
      · rw [decide_eq_false q]
        rw [if_neg (by simp)]
        simp only [Bool.false_eq_true, if_false]
        exact wpAny_bind (wpAny_rule (wpAny_pure (skip q)))
    · rw [if_neg c]
      refine wpAny_pure (skip fun q => c ?_)
      rw [h3, q]
      exact beq_self_eq_true _
  · obtain ⟨rfl, rfl, g1, g2⟩ := g
    refine wpAny_pure (hq none fun j => ⟨(fun z => by cases z), fun z => ?_⟩)
    have := g2 j z
    cases this
theorem wp_ite {M : Model} {α : Type} {c : Prop} [Decidable c] {m n : Sem α} {Q : α → Shared → Prop} (a : c → wpAny M A m Q E s) (b : ¬ c → wpAny M A n Q E s) : wpAny M A (if c then m else n) Q E s := by
  by_cases h : c
  · rw [if_pos h]
    exact a h
  · rw [if_neg h]
    exact b h
def HitOk (ks : List NK) (k : NK) (past : List Nat) (hit : Option Nat) : Prop := (hit = none ∧ ∀ j ∈ past, ks[j]? ≠ some k) ∨ ∃ j, hit = some j ∧ j ∈ past ∧ ks[j]? = some k
theorem HitOk.skip {ks : List NK} {k : NK} {past : List Nat} {hit : Option Nat} (a : HitOk ks k past hit) {i : Nat} (n : ks[i]? ≠ some k) : HitOk ks k (past ++ [i]) hit := by
  rcases a with ⟨e, q⟩ | ⟨j, e, q1, q2⟩
  · refine .inl ⟨e, fun j hj => ?_⟩
    rcases List.mem_append.mp hj with z | z
    · exact q j z
    · rw [List.mem_singleton.mp z]
      exact n
  · exact .inr ⟨j, e, List.mem_append_left _ q1, q2⟩
theorem nd_find {d : Addr} {u : Value} {o : Obj} {es : Array DictEntry} {ep : Nat} {ks : List NK} {k : NK} {Q : Option Nat → Shared → Prop} (hu : A.units + 1 < cLine) (x : NKey P w s.heap k u) (ho : s.heap.get? d = some o) (hd : o.data = .dict es ep)
    (T : NTab P w s.heap es ks) (hq : ∀ r : Option Nat, (∀ j, r = some j ↔ ks[j]? = some k) → Q r s) : wpAny (model P w) A (dictFind d u (nkH P w k)) Q E s := by
  have hst : ∀ v ∈ (plcs es (nkH P w k)).filterMap (fun i => (es[i]?).map (·.key)), ∃ l, NKey P w s.heap l v := fun v hv => by
    obtain ⟨i, hi, e⟩ := List.mem_filterMap.mp hv
    obtain ⟨e', k', h1, _, _, h4⟩ := T.both (plcs_mem.mp hi).1
    rw [h1] at e
    obtain rfl := Option.some.inj e
    exact ⟨k', h4⟩
  have hany : ∀ b, u = .ref b → ¬ (es.any fun e => e.key == u && e.hash != nkH P w k) = true := fun b ub z => by
    rw [Array.any_eq_true] at z
    obtain ⟨i, lt, z⟩ := z
    rw [Bool.and_eq_true] at z
    obtain ⟨e', k', h1, _, h3, h4⟩ := T.both lt
    rw [Array.getElem?_eq_getElem lt] at h1
    obtain rfl := Option.some.inj h1
    have ek := beq_iff_eq.mp z.1
    rw [ek] at h4
    have := h4.inj x
    rw [h3, this] at z
    simp at z
  have ux : u = .none ∨ ∃ b, u = .ref b := by
    rcases x with ⟨_, e⟩ | ⟨_, b, _, e, _⟩
    · exact .inl e
    · exact .inr ⟨b, e⟩
  unfold dictFind
  refine wpAny_holding ?_
  refine wpAny_bind (wpAny_dictEntries ho hd ?_)
  rcases ux with rfl | ⟨b, rfl⟩
  · dsimp only
    refine wp_ite (fun _ => nd_walk hu x ho hd T hq) fun _ => wp_ite (fun _ => ?_) fun _ => ?_
    · refine wpAny_bind (wpAny_pure ?_)
      show wpAny _ _ (if (false && _) = true then _ else _) _ _ _
      rw [Bool.false_and, if_neg Bool.false_ne_true]
      refine wpAny_bind (wpAny_forIn_list _ (fun rest b t => t = s ∧ ∃ past hit, plcs es (nkH P w k) = past ++ rest ∧ b = (none, hit) ∧ HitOk ks k past hit) _ (fun i rest b t g => ?_) (fun b t g => ?_) _ _ ⟨rfl, [], none, rfl, rfl, .inl ⟨rfl, fun j hj => nomatch hj⟩⟩)
      · obtain ⟨rfl, past, hit, g1, rfl, g2⟩ := g
        have im : i ∈ plcs es (nkH P w k) := by rw [g1]; exact List.mem_append_right _ List.mem_cons_self
        have ip : i ∉ past := fun z => by
          have nd := plcs_nd (es := es) (H := nkH P w k)
          rw [g1] at nd
          exact (List.nodup_append.mp nd).2.2 i z i List.mem_cons_self rfl
        have g3 : plcs es (nkH P w k) = (past ++ [i]) ++ rest := by rw [g1, List.append_assoc]; rfl
        obtain ⟨e, k', h1, h2, h3, h4⟩ := T.both (plcs_mem.mp im).1
        rw [h1]
        dsimp only
        by_cases c : (e.hash == nkH P w k) = true
        · rw [if_pos c]
          refine wpAny_bind (wpAny_dictEpoch ho hd (wpAny_bind (h4.eq x hu (wpAny_bind (wpAny_dictEpoch ho hd ?_)))))
          rw [if_neg (by simp)]
          by_cases q : k' = k
          · rw [decide_eq_true q, if_pos rfl]
            subst q
            have hn : hit = none := by
              rcases g2 with ⟨z, _⟩ | ⟨j, _, z1, z2⟩
              · exact z
              · rw [T.once h2 z2] at ip
                exact absurd z1 ip
            subst hn
            rw [if_neg (by simp)]
            refine wpAny_bind (wpAny_rule (wp_ite (fun _ => wpAny_pure (wpAny_pure (hq (some i) fun j => ⟨fun z => ?_, fun z => ?_⟩))) fun _ => wpAny_pure ⟨rfl, past ++ [i], some i, g3, rfl, .inr ⟨i, rfl, List.mem_append_right _ List.mem_cons_self, h2⟩⟩))
            · cases z
              exact h2
            · rw [T.once h2 z]
          · rw [decide_eq_false q, if_neg (by simp)]
            refine wpAny_bind (wpAny_rule ?_)
            rw [Bool.false_and, if_neg Bool.false_ne_true]
            exact wpAny_pure ⟨rfl, past ++ [i], hit, g3, rfl, g2.skip fun z => q (Option.some.inj (h2.symm.trans z))⟩
        · rw [if_neg c]
          refine wpAny_pure ⟨rfl, past ++ [i], hit, g3, rfl, g2.skip fun z => c ?_⟩
          rw [h2] at z
          rw [h3, Option.some.inj z]
          exact beq_self_eq_true _
      · obtain ⟨rfl, past, hit, g1, rfl, g2⟩ := g
        rw [List.append_nil] at g1
        refine wpAny_pure (hq hit fun j => ?_)
        rcases g2 with ⟨rfl, g2⟩ | ⟨i, rfl, _, g3⟩
        · exact ⟨(fun z => by cases z), fun z => absurd z (g2 j (by rw [← g1]; exact T.found z))⟩
        · exact ⟨fun z => by cases z; exact g3, fun z => by rw [T.once g3 z]⟩
    · refine wpAny_bind (tell_quiet x hst ?_)
      show wpAny _ _ (if (false && _) = true then _ else _) _ _ _
      rw [Bool.false_and, if_neg Bool.false_ne_true]
      refine wpAny_bind (wpAny_forIn_list _ (fun rest b t => t = s ∧ ∃ past hit, plcs es (nkH P w k) = past ++ rest ∧ b = (none, hit) ∧ HitOk ks k past hit) _ (fun i rest b t g => ?_) (fun b t g => ?_) _ _ ⟨rfl, [], none, rfl, rfl, .inl ⟨rfl, fun j hj => nomatch hj⟩⟩)
      · obtain ⟨rfl, past, hit, g1, rfl, g2⟩ := g
        have im : i ∈ plcs es (nkH P w k) := by rw [g1]; exact List.mem_append_right _ List.mem_cons_self
        have ip : i ∉ past := fun z => by
          have nd := plcs_nd (es := es) (H := nkH P w k)
          rw [g1] at nd
          exact (List.nodup_append.mp nd).2.2 i z i List.mem_cons_self rfl
        have g3 : plcs es (nkH P w k) = (past ++ [i]) ++ rest := by rw [g1, List.append_assoc]; rfl
        obtain ⟨e, k', h1, h2, h3, h4⟩ := T.both (plcs_mem.mp im).1
        rw [h1]
        dsimp only
        by_cases c : (e.hash == nkH P w k) = true
        · rw [if_pos c]
          refine wpAny_bind (wpAny_dictEpoch ho hd (wpAny_bind (h4.eq x hu (wpAny_bind (wpAny_dictEpoch ho hd ?_)))))
          rw [if_neg (by simp)]
          by_cases q : k' = k
          · rw [decide_eq_true q, if_pos rfl]
            subst q
            have hn : hit = none := by
              rcases g2 with ⟨z, _⟩ | ⟨j, _, z1, z2⟩
              · exact z
              · rw [T.once h2 z2] at ip
                exact absurd z1 ip
            subst hn
            rw [if_neg (by simp)]
            refine wpAny_bind (wpAny_rule (wp_ite (fun _ => wpAny_pure (wpAny_pure (hq (some i) fun j => ⟨fun z => ?_, fun z => ?_⟩))) fun _ => wpAny_pure ⟨rfl, past ++ [i], some i, g3, rfl, .inr ⟨i, rfl, List.mem_append_right _ List.mem_cons_self, h2⟩⟩))
            · cases z
              exact h2
            · rw [T.once h2 z]
          · rw [decide_eq_false q, if_neg (by simp)]
            refine wpAny_bind (wpAny_rule ?_)
            rw [Bool.false_and, if_neg Bool.false_ne_true]
            exact wpAny_pure ⟨rfl, past ++ [i], hit, g3, rfl, g2.skip fun z => q (Option.some.inj (h2.symm.trans z))⟩
        · rw [if_neg c]
          refine wpAny_pure ⟨rfl, past ++ [i], hit, g3, rfl, g2.skip fun z => c ?_⟩
          rw [h2] at z
          rw [h3, Option.some.inj z]
          exact beq_self_eq_true _
      · obtain ⟨rfl, past, hit, g1, rfl, g2⟩ := g
        rw [List.append_nil] at g1
        refine wpAny_pure (hq hit fun j => ?_)
        rcases g2 with ⟨rfl, g2⟩ | ⟨i, rfl, _, g3⟩
        · exact ⟨(fun z => by cases z), fun z => absurd z (g2 j (by rw [← g1]; exact T.found z))⟩
        · exact ⟨fun z => by cases z; exact g3, fun z => by rw [T.once g3 z]⟩
  · dsimp only
    rw [if_neg (by simp [carriedByValue]), if_neg (hany b rfl)]
    refine wp_ite (fun _ => ?_) fun _ => ?_
    · refine wpAny_bind (wpAny_pure ?_)
      show wpAny _ _ (if (false && _) = true then _ else _) _ _ _
      rw [Bool.false_and, if_neg Bool.false_ne_true]
      refine wpAny_bind (wpAny_forIn_list _ (fun rest b t => t = s ∧ ∃ past hit, plcs es (nkH P w k) = past ++ rest ∧ b = (none, hit) ∧ HitOk ks k past hit) _ (fun i rest b t g => ?_) (fun b t g => ?_) _ _ ⟨rfl, [], none, rfl, rfl, .inl ⟨rfl, fun j hj => nomatch hj⟩⟩)
      · obtain ⟨rfl, past, hit, g1, rfl, g2⟩ := g
        have im : i ∈ plcs es (nkH P w k) := by rw [g1]; exact List.mem_append_right _ List.mem_cons_self
        have ip : i ∉ past := fun z => by
          have nd := plcs_nd (es := es) (H := nkH P w k)
          rw [g1] at nd
          exact (List.nodup_append.mp nd).2.2 i z i List.mem_cons_self rfl
        have g3 : plcs es (nkH P w k) = (past ++ [i]) ++ rest := by rw [g1, List.append_assoc]; rfl
        obtain ⟨e, k', h1, h2, h3, h4⟩ := T.both (plcs_mem.mp im).1
        rw [h1]
        dsimp only
        by_cases c : (e.hash == nkH P w k) = true
        · rw [if_pos c]
          refine wpAny_bind (wpAny_dictEpoch ho hd (wpAny_bind (h4.eq x hu (wpAny_bind (wpAny_dictEpoch ho hd ?_)))))
          rw [if_neg (by simp)]
          by_cases q : k' = k
          · rw [decide_eq_true q, if_pos rfl]
            subst q
            have hn : hit = none := by
              rcases g2 with ⟨z, _⟩ | ⟨j, _, z1, z2⟩
              · exact z
              · rw [T.once h2 z2] at ip
                exact absurd z1 ip
            subst hn
            rw [if_neg (by simp)]
            refine wpAny_bind (wpAny_rule (wp_ite (fun _ => wpAny_pure (wpAny_pure (hq (some i) fun j => ⟨fun z => ?_, fun z => ?_⟩))) fun _ => wpAny_pure ⟨rfl, past ++ [i], some i, g3, rfl, .inr ⟨i, rfl, List.mem_append_right _ List.mem_cons_self, h2⟩⟩))
            · cases z
              exact h2
            · rw [T.once h2 z]
          · rw [decide_eq_false q, if_neg (by simp)]
            refine wpAny_bind (wpAny_rule ?_)
            rw [Bool.false_and, if_neg Bool.false_ne_true]
            exact wpAny_pure ⟨rfl, past ++ [i], hit, g3, rfl, g2.skip fun z => q (Option.some.inj (h2.symm.trans z))⟩
        · rw [if_neg c]
          refine wpAny_pure ⟨rfl, past ++ [i], hit, g3, rfl, g2.skip fun z => c ?_⟩
          rw [h2] at z
          rw [h3, Option.some.inj z]
          exact beq_self_eq_true _
      · obtain ⟨rfl, past, hit, g1, rfl, g2⟩ := g
        rw [List.append_nil] at g1
        refine wpAny_pure (hq hit fun j => ?_)
        rcases g2 with ⟨rfl, g2⟩ | ⟨i, rfl, _, g3⟩
        · exact ⟨(fun z => by cases z), fun z => absurd z (g2 j (by rw [← g1]; exact T.found z))⟩
        · exact ⟨fun z => by cases z; exact g3, fun z => by rw [T.once g3 z]⟩
    · refine wpAny_bind (tell_quiet x hst ?_)
      show wpAny _ _ (if (false && _) = true then _ else _) _ _ _
      rw [Bool.false_and, if_neg Bool.false_ne_true]
      refine wpAny_bind (wpAny_forIn_list _ (fun rest b t => t = s ∧ ∃ past hit, plcs es (nkH P w k) = past ++ rest ∧ b = (none, hit) ∧ HitOk ks k past hit) _ (fun i rest b t g => ?_) (fun b t g => ?_) _ _ ⟨rfl, [], none, rfl, rfl, .inl ⟨rfl, fun j hj => nomatch hj⟩⟩)
      · obtain ⟨rfl, past, hit, g1, rfl, g2⟩ := g
        have im : i ∈ plcs es (nkH P w k) := by rw [g1]; exact List.mem_append_right _ List.mem_cons_self
        have ip : i ∉ past := fun z => by
          have nd := plcs_nd (es := es) (H := nkH P w k)
          rw [g1] at nd
          exact (List.nodup_append.mp nd).2.2 i z i List.mem_cons_self rfl
        have g3 : plcs es (nkH P w k) = (past ++ [i]) ++ rest := by rw [g1, List.append_assoc]; rfl
        obtain ⟨e, k', h1, h2, h3, h4⟩ := T.both (plcs_mem.mp im).1
        rw [h1]
        dsimp only
        by_cases c : (e.hash == nkH P w k) = true
        · rw [if_pos c]
          refine wpAny_bind (wpAny_dictEpoch ho hd (wpAny_bind (h4.eq x hu (wpAny_bind (wpAny_dictEpoch ho hd ?_)))))
          rw [if_neg (by simp)]
          by_cases q : k' = k
          · rw [decide_eq_true q, if_pos rfl]
            subst q
            have hn : hit = none := by
              rcases g2 with ⟨z, _⟩ | ⟨j, _, z1, z2⟩
              · exact z
              · rw [T.once h2 z2] at ip
                exact absurd z1 ip
            subst hn
            rw [if_neg (by simp)]
            refine wpAny_bind (wpAny_rule (wp_ite (fun _ => wpAny_pure (wpAny_pure (hq (some i) fun j => ⟨fun z => ?_, fun z => ?_⟩))) fun _ => wpAny_pure ⟨rfl, past ++ [i], some i, g3, rfl, .inr ⟨i, rfl, List.mem_append_right _ List.mem_cons_self, h2⟩⟩))
            · cases z
              exact h2
            · rw [T.once h2 z]
          · rw [decide_eq_false q, if_neg (by simp)]
            refine wpAny_bind (wpAny_rule ?_)
            rw [Bool.false_and, if_neg Bool.false_ne_true]
            exact wpAny_pure ⟨rfl, past ++ [i], hit, g3, rfl, g2.skip fun z => q (Option.some.inj (h2.symm.trans z))⟩
        · rw [if_neg c]
          refine wpAny_pure ⟨rfl, past ++ [i], hit, g3, rfl, g2.skip fun z => c ?_⟩
          rw [h2] at z
          rw [h3, Option.some.inj z]
          exact beq_self_eq_true _
      · obtain ⟨rfl, past, hit, g1, rfl, g2⟩ := g
        rw [List.append_nil] at g1
        refine wpAny_pure (hq hit fun j => ?_)
        rcases g2 with ⟨rfl, g2⟩ | ⟨i, rfl, _, g3⟩
        · exact ⟨(fun z => by cases z), fun z => absurd z (g2 j (by rw [← g1]; exact T.found z))⟩
        · exact ⟨fun z => by cases z; exact g3, fun z => by rw [T.once g3 z]⟩
end
section
open PySem.Spec PyProof.Rows
variable {P : Program} {w : World} {A : Around} {E : Value → Shared → Prop} {s : Shared}
theorem nd_get {d : Addr} {u : Value} {o : Obj} {es : Array DictEntry} {ep : Nat} {ks : List NK} {k : NK} {Q : Option Value → Shared → Prop} (hu : A.units + 1 < cLine) (hr : (tupleKind (mixKind P w)).room A) (x : NKey P w s.heap k u) (ho : s.heap.get? d = some o)
    (hd : o.data = .dict es ep) (T : NTab P w s.heap es ks) (hq : ∀ r : Option Nat, (∀ j, r = some j ↔ ks[j]? = some k) → Q ((r.bind fun j => es[j]?).map (·.val)) { s with toks := s.toks + nkT P w k }) : wpAny (model P w) A (dictGet d u) Q E s := by
  unfold dictGet
  refine wpAny_holding (wpAny_bind (x.hash hr (wpAny_bind (nd_find (s := { s with toks := s.toks + nkT P w k }) hu x ho hd T fun r hr2 => ?_))))
  have h := hq r hr2
  cases r with
  | none => exact wpAny_pure h
  | some j => exact wpAny_bind (wpAny_dictEntries (s := { s with toks := s.toks + nkT P w k }) ho hd (wpAny_pure h))
theorem nd_set {d : Addr} {u v : Value} {o : Obj} {es : Array DictEntry} {ep : Nat} {ks : List NK} {k : NK} {Q : Unit → Shared → Prop} (hu : A.units + 1 < cLine) (hr : (tupleKind (mixKind P w)).room A) (x : NKey P w s.heap k u) (ho : s.heap.get? d = some o)
    (hd : o.data = .dict es ep) (T : NTab P w s.heap es ks) (hz : es.size ≤ sizeLine)
    (hnew : (∀ j : Nat, ks[j]? ≠ some k) → Q () { s with heap := s.heap.update d (Obj.mapDictKeys (·.push ⟨nkH P w k, u, v⟩)), toks := s.toks + nkT P w k })
    (hold : ∀ j : Nat, ks[j]? = some k → Q () { s with heap := s.heap.update d (Obj.mapDict (·.modify j fun e => { e with val := v })), toks := s.toks + nkT P w k }) : wpAny (model P w) A (dictSet d u v) Q E s := by
  unfold dictSet
  refine wpAny_holding (wpAny_bind (x.hash hr ?_))
  unfold dictSetHashed
  refine wpAny_holding (wpAny_bind (nd_find (s := { s with toks := s.toks + nkT P w k }) hu x ho hd T fun r hr2 => ?_))
  cases r with
  | none => exact wpAny_bind (wpAny_rule (wpAny_updateDictKeys (s := { s with toks := s.toks + nkT P w k }) ho hd (hnew fun j e => nomatch (hr2 j).mpr e) hz))
  | some j => exact wpAny_bind (wpAny_rule (wpAny_bind (wpAny_updateDict (s := { s with toks := s.toks + nkT P w k }) ho hd (wpAny_point (hold j ((hr2 j).mp rfl))))))
end
/-! ### .. in the hand layer -/
section
open PySem.Spec PyProof.Rows
abbrev NRow := NK × V × V
def ERow (P : Program) (w : World) (r : NRow) (e : DictEntry) : Prop := e.hash = nkH P w r.1 ∧ RelV r.2.1 e.key ∧ RelV r.2.2 e.val
/-- the dict at d holds the rows -/
def dnO (P : Program) (w : World) (d : Addr) (rows : List NRow) : HO := .ext fun h => rows.length ≤ sizeLine ∧ ∃ us : List DictEntry, Paired (ERow P w) rows us ∧ ∃ o ep, h.get? d = some o ∧ o.ExactDict ∧ o.data = .dict us.toArray ep
def KeyV (H : Hp) : NK → V → Prop
  | none, v => v = .non
  | some q, v => StopAt H v q
theorem KeyV.keep {H H' : Hp} {k : NK} {v : V} (t : TupKeep H H') (h : KeyV H k v) : KeyV H' k v := by
  cases k with
  | none => exact h
  | some q => exact StopAt.keep t h
structure DN (P : Program) (w : World) (H : Hp) (d : Addr) (rows : List NRow) : Prop where
  at_ : H d = some (dnO P w d rows)
  sys : (d == sysModules) = false
  keys : ∀ r ∈ rows, KeyV H r.1 r.2.1
  nd : (rows.map (·.1)).Nodup
def putN (rows : List NRow) (k : NK) (u v : V) : List NRow := if k ∈ rows.map (·.1) then rows.map fun r => if r.1 = k then (r.1, r.2.1, v) else r else rows ++ [(k, u, v)]
def valN (rows : List NRow) (k : NK) : Option V := (rows.find? fun r => decide (r.1 = k)).map (·.2.2)
variable {X : Cx} {pins : List (Addr × Obj)} {σ : L2.St} {H : Hp} {s : Shared}
theorem keyV_nkey (I : Inv X pins σ H s) {k : NK} {v : V} {u : Value} (h : KeyV H k v) (r : RelV v u) : NKey X.prog X.w s.heap k u := by
  cases k with
  | none =>
    obtain rfl : v = .non := h
    exact .inl ⟨rfl, r⟩
  | some q =>
    obtain ⟨b, rfl, hb⟩ := id h
    obtain rfl : u = Value.ref b := r
    obtain ⟨as, ra⟩ := Dp.reads I (plD q) (.ref b) (.ref b) (stop_dp h) rfl
    exact .inr ⟨q, b, rfl, rfl, key_of (ks := nkL q) I.hok hb, as, ra⟩
theorem erow_get {P : Program} {w : World} {rows : List NRow} {us : List DictEntry} (h : Paired (ERow P w) rows us) {j : Nat} {e : DictEntry} (he : us[j]? = some e) : ∃ r, rows[j]? = some r ∧ ERow P w r e := Paired.get? h he
theorem dn_raw (I : Inv X pins σ H s) {d : Addr} {rows : List NRow} (D : DN X.prog X.w H d rows) : rows.length ≤ sizeLine ∧ ∃ us : List DictEntry, Paired (ERow X.prog X.w) rows us ∧ ∃ o ep, s.heap.get? d = some o ∧ o.ExactDict ∧ o.data = .dict us.toArray ep ∧ NTab X.prog X.w s.heap us.toArray (rows.map (·.1)) := by
  obtain ⟨⟨hz, us, hp, o, ep, ho, hx, hd⟩, _⟩ := (show ObjOk X.prog X.w H s.heap d (dnO X.prog X.w d rows) from I.hok d _ D.at_)
  refine ⟨hz, us, hp, o, ep, ho, hx, hd, by rw [List.size_toArray, List.length_map, hp.length], fun j e k he hk => ?_, D.nd⟩
  have he : us[j]? = some e := by simpa using he
  obtain ⟨r, hr, e1, e2, e3⟩ := erow_get hp he
  rw [List.getElem?_map, hr] at hk
  obtain rfl := Option.some.inj hk
  exact ⟨e1, keyV_nkey I (D.keys r (List.mem_of_getElem? hr)) e2⟩
/-- {} -/
def tDNewN (P : Program) (w : World) : TE := fun _ H Q => ∀ p, H p = none → (p == sysModules) = false → Q (.ref p) (upd H p (dnO P w p []))
theorem dnO_ok {P : Program} {w : World} {H : Hp} {h : Heap} {d : Addr} {rows : List NRow} {us : List DictEntry} {o : Obj} {ep : Nat} (hz : rows.length ≤ sizeLine) (hp : Paired (ERow P w) rows us) (ho : h.get? d = some o) (hx : o.ExactDict) (hd : o.data = .dict us.toArray ep) : ObjOk P w H h d (dnO P w d rows) :=
  ⟨⟨hz, us, hp, o, ep, ho, hx, hd⟩, ⟨o, ho⟩, fun _ _ ⟨z, us', p', o', ep', ho', hx', hd'⟩ k => ⟨z, us', p', o', ep', k _ ho', hx', hd'⟩⟩
theorem pe_dnewN {pos : Pos} : PE X (.Dict [] [] pos) (tDNewN X.prog X.w) := ⟨fun pins s σ H Q I h =>
  wpAny_Dict_empty ⟨.ref s.heap.objs.size, _, I.laid (a := s.heap.objs.size) (o := dnO X.prog X.w s.heap.objs.size []) (t' := s.toks) (fun _ _ q => Heap.get?_push_of_some _ q) (Nat.le_refl _)
    (dnO_ok (us := []) (ep := 0) (Nat.zero_le _) .nil (Heap.get?_push_size _ rfl) ⟨rfl, rfl, rfl⟩ rfl), rfl, h _ (I.hok.fresh (Nat.le_refl _)) (beq_eq_false_iff_ne.mpr (Ne.symm (Nat.ne_of_lt I.big)))⟩⟩
theorem dn_new {P : Program} {w : World} {d : Addr} (hs : (d == sysModules) = false) : DN P w (upd H d (dnO P w d [])) d [] := ⟨upd_same, hs, (fun _ h => by cases h), List.nodup_nil⟩
/-- the value found, in the words of rows -/
theorem found_val {P : Program} {w : World} {rows : List NRow} {us : List DictEntry} (hp : Paired (ERow P w) rows us) {k : NK} {r : Option Nat} (hr : ∀ j, r = some j ↔ (rows.map (·.1))[j]? = some k) (nd : (rows.map (·.1)).Nodup) :
    (valN rows k = none ∧ r = none) ∨ ∃ j e v, r = some j ∧ us[j]? = some e ∧ valN rows k = some v ∧ RelV v e.val := by
  cases r with
  | none =>
    refine .inl ⟨?_, rfl⟩
    unfold valN
    rw [Option.map_eq_none_iff, List.find?_eq_none]
    intro z hz e
    obtain ⟨j, hj⟩ := List.getElem?_of_mem hz
    have := (hr j).mpr (by rw [List.getElem?_map, hj, ← of_decide_eq_true e]; rfl)
    cases this
  | some j =>
    have h1 := (hr j).mp rfl
    rw [List.getElem?_map] at h1
    obtain ⟨row, h2, h3⟩ := Option.map_eq_some_iff.mp h1
    have lt : j < us.length := by rw [← hp.length]; exact (List.getElem?_eq_some_iff.mp h2).1
    have h4 := List.getElem?_eq_getElem lt
    obtain ⟨row', h5, h6⟩ := erow_get hp h4
    obtain rfl := Option.some.inj (h2.symm.trans h5)
    refine .inr ⟨j, _, row.2.2, rfl, h4, ?_, h6.2.2⟩
    unfold valN
    cases hf : rows.find? fun r => decide (r.1 = k) with
    | none =>
      rw [List.find?_eq_none] at hf
      exact absurd (decide_eq_true h3) (hf row (List.mem_of_getElem? h2))
    | some r2 =>
      have hm := List.mem_of_find?_eq_some hf
      have hk : r2.1 = k := by
        have := List.find?_some hf
        simpa using this
      obtain ⟨i, hi⟩ := List.getElem?_of_mem hm
      have hi' : (rows.map (·.1))[i]? = some k := by rw [List.getElem?_map, hi, ← hk]; rfl
      have eij : i = j := Option.some.inj (((hr i).mpr hi').symm)
      rw [eij, h2] at hi
      rw [Option.some.inj hi]
      rfl
theorem putN_len {rows : List NRow} {k : NK} {u v : V} : (putN rows k u v).length ≤ rows.length + 1 := by
  unfold putN
  split
  · rw [List.length_map]
    exact Nat.le_succ _
  · rw [List.length_append]
    exact Nat.le_refl _
theorem putN_keys {H : Hp} {rows : List NRow} {k : NK} {u v : V} (h : ∀ r ∈ rows, KeyV H r.1 r.2.1) (hk : KeyV H k u) : ∀ r ∈ putN rows k u v, KeyV H r.1 r.2.1 := fun r hr => by
  unfold putN at hr
  split at hr
  · obtain ⟨r0, h0, rfl⟩ := List.mem_map.mp hr
    have := h r0 h0
    by_cases c : r0.1 = k
    · rw [if_pos c]
      exact this
    · rw [if_neg c]
      exact this
  · rcases List.mem_append.mp hr with z | z
    · exact h r z
    · rw [List.mem_singleton.mp z]
      exact hk
theorem putN_nd {rows : List NRow} {k : NK} {u v : V} (nd : (rows.map (·.1)).Nodup) : ((putN rows k u v).map (·.1)).Nodup := by
  unfold putN
  split
  · rw [List.map_map]
    have e : ((fun r : NRow => r.1) ∘ fun r => if r.1 = k then (r.1, r.2.1, v) else r) = fun r => r.1 := by
      funext r
      show (if r.1 = k then (r.1, r.2.1, v) else r).1 = r.1
      split <;> rfl
    rw [e]
    exact nd
  · rename_i c
    rw [List.map_append]
    refine List.nodup_append.mpr ⟨nd, by simp, fun a ha b hb e => c ?_⟩
    have hb : b = k := by simpa using hb
    rw [← hb, ← e]
    exact ha
theorem erow_set {P : Program} {w : World} {rows : List NRow} {us : List DictEntry} (hp : Paired (ERow P w) rows us) {k : NK} {j : Nat} {v : V} {x : Value} (hj : (rows.map (·.1))[j]? = some k) (nd : (rows.map (·.1)).Nodup) (rv : RelV v x) :
    Paired (ERow P w) (rows.map fun r => if r.1 = k then (r.1, r.2.1, v) else r) (us.modify j fun e => { e with val := x }) := by
  induction hp generalizing j with
  | nil => simp at hj
  | cons r t ih =>
    rename_i r0 e0 rows us
    rw [List.map_cons, List.nodup_cons] at nd
    cases j with
    | zero =>
      have h0 : r0.1 = k := by simpa using hj
      have eT : (rows.map fun r => if r.1 = k then (r.1, r.2.1, v) else r) = rows := by
        conv => rhs; rw [← List.map_id rows]
        apply List.map_congr_left
        intro z hz
        have : ¬ z.1 = k := fun e => nd.1 (by rw [h0, ← e]; exact List.mem_map.mpr ⟨z, hz, rfl⟩)
        rw [if_neg this]
        rfl
      rw [List.map_cons, eT, if_pos h0]
      exact .cons ⟨r.1, r.2.1, rv⟩ t
    | succ j =>
      have h1 : (rows.map (·.1))[j]? = some k := by simpa using hj
      have h0 : ¬ r0.1 = k := fun e => nd.1 (by rw [e]; exact List.mem_of_getElem? h1)
      rw [List.map_cons, if_neg h0]
      exact .cons r (ih h1 nd.2)
/-- d.get(k, x) -/
def rGetN (P : Program) (w : World) : V → List V → Hp → VK → Prop := fun x xs H Q => ∃ (d : Addr) (rows : List NRow) (k : NK) (u y : V), x = .ref d ∧ xs = [u, y] ∧ DN P w H d rows ∧ KeyV H k u ∧ Q ((valN rows k).getD y) H
theorem mt_getN (hu : X.A.units + 2 < cLine) : MtR X "dict.get" (rGetN X.prog X.w) := by
  intro pins s σ H x xs v us Q I rx rxs h
  obtain ⟨d, rows, k, u, y, rfl, rfl, D, hk, q⟩ := h
  cases rx
  cases rxs with
  | cons ru r2 =>
    rename_i uu us'
    cases r2 with
    | cons ry r3 =>
      rename_i uy us2
      cases r3
      obtain ⟨hz, us, hp, o, ep, ho, hx, hd, T⟩ := dn_raw I D
      have ty : s.TypeIs (.ref d) "dict" := ⟨o, ho, hx.1⟩
      refine call_meetsIn PySem.F.slot_dict_get ty PySem.F.entry_dict_get (PySem.F.args_dict_get_3 _ _ _) (S := fun A R s' => A = X.A ∧ s' = s ∧ ∀ z t, RelV ((valN rows k).getD y) z → R (.ok (.ret z)) { s with toks := t }) (.of_wp fun A R s' hS => ?_) ⟨rfl, rfl, fun z t rz => ⟨_, H, I.tok t, rz, q⟩⟩
      obtain ⟨rfl, rfl, hR⟩ := hS
      show wpAny _ _ (dictGet d uu >>= _) _ _ _
      refine wpAny_bind (nd_get (A := X.A.in1) (by show X.A.units + 1 + 1 < cLine; omega) (tupleKind_room_in1 (by omega)) (keyV_nkey I hk ru) ho hd T fun r hr => ?_)
      rcases found_val hp hr D.nd with ⟨e1, rfl⟩ | ⟨j, e, v, rfl, he, e1, rv⟩
      · rw [e1] at hR
        show wpAny _ _ (Builtin.Dict.missed d uu >>= _) _ _ _
        exact wpAny_bind (wpAny_missed_other D.sys (wpAny_pure ⟨uy, rfl, hR _ _ ry⟩))
      · rw [e1] at hR
        have he2 : us.toArray[j]? = some e := by simpa using he
        rw [Option.bind_some, he2]
        exact wpAny_pure ⟨e.val, rfl, hR _ _ rv⟩
end
section
open PySem.Spec PyProof.Rows
variable {X : Cx} {pins : List (Addr × Obj)} {σ : L2.St} {H : Hp} {s : Shared}
theorem tk_dn {P : Program} {w : World} {d : Addr} {rows : List NRow} {o : HO} (h : H d = some (dnO P w d rows)) : TupKeep H (upd H d o) := fun b xs e => by
  rw [upd_ne (ne_of e h (fun z => by cases z))]
  exact e
theorem dn_put {P : Program} {w : World} {d : Addr} {rows : List NRow} {k : NK} {u v : V} (D : DN P w H d rows) (hk : KeyV H k u) : DN P w (upd H d (dnO P w d (putN rows k u v))) d (putN rows k u v) :=
  ⟨upd_same, D.sys, putN_keys (fun r hr => (D.keys r hr).keep (tk_dn D.at_)) (hk.keep (tk_dn D.at_)), putN_nd D.nd⟩
theorem dn_same {P : Program} {w : World} {H' : Hp} {d : Addr} {rows : List NRow} (D : DN P w H d rows) (s : Same H H') : DN P w H' d rows := ⟨s _ _ D.at_, D.sys, fun r hr => (D.keys r hr).keep (tk_of s), D.nd⟩
theorem us_modify {us : List DictEntry} {j : Nat} {f : DictEntry → DictEntry} : us.toArray.modify j f = (us.modify j f).toArray := by simp
/-- d[k] = v -/
def rSetN (P : Program) (w : World) : TSet := fun x i v H Q => ∃ (d : Addr) (rows : List NRow) (k : NK), x = .ref d ∧ DN P w H d rows ∧ KeyV H k i ∧ rows.length < sizeLine ∧ Q (upd H d (dnO P w d (putN rows k i v)))
theorem set_dictN (hu : X.A.units + 2 < cLine) : PSet X (rSetN X.prog X.w) := by
  intro pins s σ H x i v ov iv u Q I ro ri rv h
  obtain ⟨d, rows, k, rfl, D, hk, hl, q⟩ := h
  cases (show ov = Value.ref d from ro)
  obtain ⟨hz, us, hp, o, ep, ho, hx, hd, T⟩ := dn_raw I D
  have ty : s.TypeIs (.ref d) "dict" := ⟨o, ho, hx.1⟩
  have fin : ∀ {h' : Heap} {t : Nat} {us' : List DictEntry} {o' : Obj} {ep' : Nat}, Heap.SameBut d s.heap h' → h'.get? d = some o' → o'.ExactDict → o'.data = .dict us'.toArray ep' → Paired (ERow X.prog X.w) (putN rows k i v) us' →
      ∃ H', Inv X pins σ H' { s with heap := h', toks := t } ∧ Q H' := fun {h' t us' o' ep'} hs ho' hx' hd' hp' =>
    ⟨_, d_write I (by rw [D.at_]; exact True.intro) hs ⟨o', ho'⟩ (dnO_ok (by have := putN_len (rows := rows) (k := k) (u := i) (v := v); omega) hp' ho' hx' hd'), q⟩
  unfold setItem
  refine wpAny_holding (wpAny_bind (wpAny_sequenceKey ty (by decide) ?_))
  refine wpAny_bind (wpAny_callSpecial?_slot (name := Str.ofString "__setitem__") ty slot_dict_setitem (wpAny_call_entry slot_dict_setitem ty entry_dict_setitem ?_ (args_dict_setitem _ _ _)))
  show wpAny _ _ (Builtin.Dict.notOrdered "__setitem__" ⟨[.ref d, iv, u], []⟩ >>= _) _ _ s
  refine wpAny_bind (wpAny_notOrdered_dict ty ?_)
  show wpAny _ _ (dictSet d iv u >>= _) _ _ s
  refine wpAny_bind (nd_set (by show X.A.units + 1 + 1 < cLine; omega) (tupleKind_room_in1 (by omega)) (keyV_nkey I hk ri) ho hd T (by rw [List.size_toArray, ← hp.length]; omega) (fun hn => ?_) fun j hj => ?_)
  · refine wpAny_pure ⟨.none, rfl, wpAny_pure ?_⟩
    refine fin (us' := us ++ [⟨nkH X.prog X.w k, iv, u⟩]) (ep' := ep + 1) (Heap.SameBut.update ..) (Heap.get?_update_self _ ho (Obj.isFreed_of_dict (Obj.data_mapDictKeys hd _))) (hx.mapDictKeys _) (by rw [Obj.data_mapDictKeys hd]; simp) ?_
    unfold putN
    rw [if_neg fun z => by
      obtain ⟨j, hj⟩ := List.getElem?_of_mem z
      exact hn j hj]
    exact Paired.snoc hp ⟨rfl, ri, rv⟩
  · refine wpAny_pure ⟨.none, rfl, wpAny_pure ?_⟩
    refine fin (us' := us.modify j fun e => { e with val := u }) (ep' := ep) (Heap.SameBut.update ..) (Heap.get?_update_self _ ho (Obj.isFreed_of_dict (Obj.data_mapDict hd _))) (hx.mapDict _) (by rw [Obj.data_mapDict hd, us_modify]) ?_
    unfold putN
    rw [if_pos (List.mem_of_getElem? hj)]
    exact erow_set hp hj D.nd rv
/-- k in d -/
def rInN (P : Program) (w : World) : R2 := fun x y H Q => ∃ (d : Addr) (rows : List NRow) (k : NK), y = .ref d ∧ DN P w H d rows ∧ KeyV H k x ∧ Q (.bl (valN rows k).isSome) H
theorem op_inN (hu : X.A.units + 2 < cLine) : OpR X (compareOp .In) (rInN X.prog X.w) := by
  intro pins s σ H x y v u Q I rx ry h
  obtain ⟨d, rows, k, rfl, D, hk, q⟩ := h
  cases (show u = Value.ref d from ry)
  obtain ⟨hz, us, hp, o, ep, ho, hx, hd, T⟩ := dn_raw I D
  have ty : s.TypeIs (.ref d) "dict" := ⟨o, ho, hx.1⟩
  show wpAny _ _ (do return Value.bool (← contains (.ref d) v)) _ _ s
  refine wpAny_bind (wpAny_contains_slot ty PySem.F.slot_dict_contains ?_)
  refine call_meetsIn PySem.F.slot_dict_contains ty PySem.F.entry_dict_contains (PySem.F.args_dict_contains_2 _ _) (S := fun A R s' => A = X.A ∧ s' = s ∧ ∀ t, R (.ok (.ret (.bool (valN rows k).isSome))) { s with toks := t }) (.of_wp fun A R s' hS => ?_) ⟨rfl, rfl, fun t => wpAny_truthy_bool (wpAny_pure ⟨.bl _, H, I.tok t, rfl, q⟩)⟩
  obtain ⟨rfl, rfl, hR⟩ := hS
  show wpAny _ _ (dictGet d v >>= _) _ _ _
  refine wpAny_bind (nd_get (A := X.A.in1) (by show X.A.units + 1 + 1 < cLine; omega) (tupleKind_room_in1 (by omega)) (keyV_nkey I hk rx) ho hd T fun r hr => ?_)
  rcases found_val hp hr D.nd with ⟨e1, rfl⟩ | ⟨j, e, z, rfl, he, e1, rv⟩
  · rw [e1] at hR
    show wpAny _ _ (Builtin.Dict.pendingKey? d v >>= _) _ _ _
    exact wpAny_bind (wpAny_pendingKey_other D.sys (wpAny_pure ⟨_, rfl, hR _⟩))
  · rw [e1] at hR
    have he2 : us.toArray[j]? = some e := by simpa using he
    rw [Option.bind_some, he2]
    exact wpAny_pure ⟨_, rfl, hR _⟩
end
/-! ### .. its values, its keys one by one -/
section
open PySem.Spec PyProof.Rows
variable {X : Cx} {pins : List (Addr × Obj)} {σ : L2.St} {H : Hp} {s : Shared}
theorem dn_rawD (I : Inv X pins σ H s) {d : Addr} {rows : List NRow} (D : DN X.prog X.w H d rows) : ∃ (us : List DictEntry) (ep : Nat), Paired (ERow X.prog X.w) rows us ∧ s.heap.DictRaw d us.toArray ep := by
  obtain ⟨_, us, hp, o, ep, ho, hx, hd, _⟩ := dn_raw I D
  exact ⟨us, ep, hp, o, ho, hx, hd⟩
/-- d.values() -/
def rValuesN (P : Program) (w : World) : V → List V → Hp → VK → Prop := fun x xs H Q => ∃ (a : Addr) (rows : List NRow), x = .ref a ∧ xs = [] ∧ DN P w H a rows ∧ ∀ p, H p = none → Q (.ref p) (L2.upd H p (valsO p a))
theorem mt_valuesN : MtR X "dict.values" (rValuesN X.prog X.w) := by
  intro pins s σ H x xs v us Q I rx rxs h
  obtain ⟨a, rows, rfl, rfl, D, q⟩ := h
  cases rx
  cases rxs
  obtain ⟨es, ep, hp, raw⟩ := dn_rawD I D
  refine call_meetsIn PySem.F.slot_dict_values raw.typeIs PySem.F.entry_dict_values (PySem.F.args_dict_values_1 _) (PySem.meets_dict_values_raw a D.sys) ⟨⟨_, ep, raw⟩, ?_⟩
  exact ⟨.ref s.heap.objs.size, L2.upd H s.heap.objs.size (valsO s.heap.objs.size a), I.laid (t' := s.toks) (fun b u e => Heap.get?_push_of_some _ e) (Nat.le_refl _) (valsO_ok (Heap.get?_push_size _ rfl)), rfl, q _ (I.hok.fresh (Nat.le_refl _))⟩
/-- max(d.values()), numbers -/
def rMaxVN (P : Program) (w : World) : List V → Hp → VK → Prop := fun xs H Q => ∃ (p a : Addr) (rows : List NRow) (ns : List Int), xs = [.ref p] ∧ H p = some (valsO p a) ∧ DN P w H a rows ∧ rows.map (·.2.2) = ns.map V.int ∧ 0 < ns.length ∧
  ∀ m, m ∈ ns → (∀ y ∈ ns, y ≤ m) → Q (.int m) H
theorem cr_maxVN (hc : X.calm = true) : CallR X (.builtin "max") (rMaxVN X.prog X.w) := by
  intro pins s σ H xs us Q I rx h
  obtain ⟨p, a, rows, ns, rfl, hv, D, hns, hne, q⟩ := h
  rw [Vals.ref1 rx]
  obtain ⟨es, ep, hp, raw⟩ := dn_rawD I D
  have hvv : s.heap.IsValuesView p a := (show ObjOk X.prog X.w H s.heap p (valsO p a) from I.hok p _ hv).1
  have l1 : rows.length = ns.length := by
    have e := congrArg List.length hns
    rw [List.length_map, List.length_map] at e
    exact e
  have l2 : es.toArray.size = ns.length := by rw [List.size_toArray, ← hp.length, l1]
  have val : ∀ (i : Nat) (v : Value), (∃ hi : i < es.toArray.size, v = es.toArray[i].val) → ∃ t, v = .int (ns.getD i 0) t := fun i v ⟨hi, ev⟩ => by
    have hi2 : i < es.length := by rw [List.size_toArray] at hi; exact hi
    obtain ⟨r, hr, _, _, rv⟩ := erow_get hp (List.getElem?_eq_getElem hi2)
    have hi3 : i < ns.length := by rw [← l2]; exact hi
    have e2 : r.2.2 = V.int ns[i] := by
      have z : (rows.map (·.2.2))[i]? = (ns.map V.int)[i]? := by rw [hns]
      rw [List.getElem?_map, List.getElem?_map, hr, List.getElem?_eq_getElem hi3] at z
      exact Option.some.inj z
    rw [e2] at rv
    obtain ⟨t, et⟩ := rv
    refine ⟨t, ?_⟩
    rw [ev, List.getD_eq_getElem?_getD, List.getElem?_eq_getElem hi3]
    simpa using et
  refine call_max_walk ?_
  refine wpAny_pyIter_values_raw hvv raw ?_
  have ha : a < s.heap.objs.size := raw.lt_size
  refine ⟨s.heap.objs.size, [s.heap.objs.size, a], [s.heap.objs.size], es.toArray.size, _, _, fun i j => decide (ns.getD i 0 > ns.getD j 0), rfl, Walks.rawValues (show X.A.in1.handled = none from I.ok.hd hc) _ a (Nat.ne_of_lt ha) es.toArray ep, ⟨⟨_, Heap.get?_push_size _ rfl, rfl, rfl⟩, raw.push _⟩, fun b hb => ?_, by omega, CmpOf.ints_gt (fun i => ns.getD i 0) (fun i v z => val i v z), fun v h' tk hw hk => ?_⟩
  · show b < (s.heap.push _).objs.size
    rw [Heap.size_push]
    simp only [List.mem_cons, List.not_mem_nil, or_false] at hb
    rcases hb with z | z
    · rw [z]
      exact Nat.lt_succ_self _
    · rw [z]
      exact Nat.lt_succ_of_lt ha
  · obtain ⟨t, rfl⟩ := val _ _ hw
    have m2 := (argBest_gt (fun i => ns.getD i 0) (es.toArray.size - 1)).2
    have m1 := (argBest_gt (fun i => ns.getD i 0) (es.toArray.size - 1)).1
    have keep : ∀ b o, s.heap.get? b = some o → h'.get? b = some o := fun b o e => hk b o (fun z => by rw [List.mem_singleton.mp z] at e; exact absurd (Heap.lt_size e) (Nat.lt_irrefl _)) (Heap.get?_push_of_some _ e)
    refine ⟨.int _, H, I.kept (t' := tk) keep, ⟨t, rfl⟩, q _ ?_ fun y hy => ?_⟩
    · have lt : argBest (fun i j => decide (ns.getD i 0 > ns.getD j 0)) (es.toArray.size - 1) < ns.length := Nat.lt_of_le_of_lt m1 (by omega)
      rw [List.getD_eq_getElem?_getD, List.getElem?_eq_getElem lt]
      exact List.getElem_mem lt
    · obtain ⟨j, hj, e⟩ := List.mem_iff_getElem.mp hy
      have z : ns.getD j 0 ≤ ns.getD (argBest (fun i j => decide (ns.getD i 0 > ns.getD j 0)) (es.toArray.size - 1)) 0 := m2 j (by omega)
      have e3 : ns.getD j 0 = y := by rw [List.getD_eq_getElem?_getD, List.getElem?_eq_getElem hj, ← e]; rfl
      rw [e3] at z
      exact z
/-- the keys one by one, the dict locked -/
def ItN (P : Program) (w : World) (d : Addr) (o : Obj) (rows : List NRow) : It :=
  ⟨fun i H => H d = some (.frz o (dnO P w d rows)) ∧ i < rows.length, fun i H x H' => H' = H ∧ ∃ r, rows[i]? = some r ∧ x = r.2.1, fun i H => H d = some (.frz o (dnO P w d rows)) ∧ rows.length ≤ i⟩
def iKeysN (P : Program) (w : World) (td : TE) : TI := fun σ H R => td σ H fun x H1 => ∃ d o rows, x = .ref d ∧ (d == sysModules) = false ∧ H1 d = some (.frz o (dnO P w d rows)) ∧ R (ItN P w d o rows) H1
theorem frzN (I : Inv X pins σ H s) {d : Addr} {o : Obj} {rows : List NRow} (h : H d = some (.frz o (dnO X.prog X.w d rows))) : s.heap.get? d = some o ∧ o.ExactDict ∧ ∃ (us : List DictEntry) (ep : Nat), o.data = .dict us.toArray ep ∧ Paired (ERow X.prog X.w) rows us := by
  obtain ⟨ho, ⟨⟨_, us, hp, o', ep, ho', hx, hd⟩, _⟩⟩ := (show ObjOk X.prog X.w H s.heap d (.frz o (dnO X.prog X.w d rows)) from I.hok d _ h)
  obtain rfl := Option.some.inj (ho.symm.trans ho')
  exact ⟨ho, hx, us, ep, hd, hp⟩
theorem ep_of {o : Obj} {es es' : Array DictEntry} {ep ep' : Nat} (a : o.data = .dict es ep) (b : o.data = .dict es' ep') : es' = es ∧ ep' = ep := by
  rw [a] at b
  cases b
  exact ⟨rfl, rfl⟩
theorem turn_keysN {P : Program} {w : World} {K : PySem.W.Frag} {tg : Expr} {d : Addr} {o : Obj} {rows : List NRow} {es : Array DictEntry} {ep : Nat} (it : Addr) (hod : o.data = .dict es ep) : Turn P w K tg (ItN P w d o rows) [it] it (fun i h => h.IsKeyIter it d i rows.length ep) where
  mem := List.mem_singleton.mpr rfl
  obj := fun i h st b hb => by
    rw [List.mem_singleton.mp hb]
    obtain ⟨oi, e, c, dd⟩ := st
    exact ⟨oi, e, fun v z => by rw [dd] at z; cases z⟩
  keep := fun i h h' st k => st.at fun oi e => k it (List.mem_singleton.mpr rfl) oi e
  item := by
    intro X eP ew eK hc i pins s σ H E I hf st hg
    subst eP ew eK
    obtain ⟨hd, hi⟩ := hg
    obtain ⟨f0, f1, f2, f3, f4, f5⟩ := hf it (List.mem_singleton.mpr rfl)
    obtain ⟨ho, hx, us, ep', hdt, hp⟩ := frzN I hd
    obtain ⟨e1, e2⟩ := ep_of hod hdt
    subst e2
    have lu : i < us.length := by rw [← hp.length]; exact hi
    have hu := List.getElem?_eq_getElem lu
    obtain ⟨r, hr, _, rk, _⟩ := erow_get hp hu
    refine next_key_item (es := us.toArray) (en := us[i]) st ho hdt (by rw [List.size_toArray, hp.length]) (by simpa using hu) fun h' st' sb => ?_
    have I1 : Inv X pins σ H { s with heap := h' } := I.turned (t' := s.toks) (fun b ob hb e => (sb.2 b hb).trans e) f0 f1 f3 f4 f5
    obtain ⟨oi, e, c, dd⟩ := id st'
    exact ⟨_, rfl, go_of (s := { s with heap := h' }) e c dd (by decide) ⟨r.2.1, H, I1, rk, ⟨rfl, r, hr, rfl⟩, st', fun b hb => (hf b hb).1⟩⟩
  done := by
    intro X eP ew eK hc i pins s σ H E I hf st hg
    subst eP ew eK
    obtain ⟨hd, hi⟩ := hg
    obtain ⟨f0, f1, f2, f3, f4, f5⟩ := hf it (List.mem_singleton.mpr rfl)
    obtain ⟨ho, hx, us, ep', hdt, hp⟩ := frzN I hd
    obtain ⟨e1, e2⟩ := ep_of hod hdt
    subst e2
    exact next_key_end (es := us.toArray) (I.ok.hd hc) st ho hdt (by rw [List.size_toArray, hp.length]) hi fun h' eb => ⟨rfl, I.turned (t' := s.toks) (fun b ob hb e => eb b ob hb e) f0 f1 f3 f4 f5⟩
  self := fun A i s Q E st h => (turn_keysT (P := P) (w := w) (K := K) (tg := tg) (kvs := rows.map fun _ => ([], V.non)) it hod).self A i s Q E (by show s.heap.IsKeyIter it d i (rows.map fun _ => (([] : List L2.Key), V.non)).length ep; rw [List.length_map]; exact st) h
theorem pi_keysN {tg e : Expr} {td : TE} (he : PE X e td) : PI X tg e (iKeysN X.prog X.w td) := by
  refine ⟨fun pins s σ H R I h => ?_⟩
  refine thn (he.run pins s σ H _ I h) fun u s1 ⟨x, H1, I1, rx, d, o, rows, ex, hs, hd, q⟩ => ?_
  subst ex
  obtain rfl : u = Value.ref d := rx
  obtain ⟨ho, hx, us, ep, hdt, hp⟩ := frzN I1 hd
  refine iter_keys hs ho hx hdt (pi_one (tk := s1.toks) I1 _ (turn_keysN _ hdt) ⟨_, Heap.get?_push_size _ rfl, rfl, ?_⟩ q)
  rw [List.size_toArray, hp.length]
  rfl
end
/-! ### d.m(..) of such a dict -/
section
open PySem.Spec PyProof.Rows
variable {X : Cx} {o e : Expr} {es : List Expr} {to : TE} {t : TA} {r : V → List V → Hp → VK → Prop} {name : Str} {id : String} {apos cpos : Pos}
def tBMN (P : Program) (w : World) (r : V → List V → Hp → VK → Prop) (to : TE) (t : TA) : TE := fun ρ H Q => to ρ H fun x H1 => (∃ a rows, x = .ref a ∧ DN P w H1 a rows) ∧ t ρ H1 fun ys H2 => r x ys H2 Q
def tBMN0 (P : Program) (w : World) (r : V → List V → Hp → VK → Prop) (to : TE) : TE := fun ρ H Q => to ρ H fun x H1 => (∃ a rows, x = .ref a ∧ DN P w H1 a rows) ∧ r x [] H1 Q
theorem pe_bmN (pa : PlainAttrs "dict") (slot : Slot "dict" name id) (hty : typeOf (.builtin id) = pure (.type "method_descriptor")) (hm : MtR X id r) (ho : PE X o to) (ha : PA X (e :: es) t)
    (hbase : attributeBase o name X.env (eval o X.env) = eval o X.env := by rfl)
    (hfew : ((backTo cpos (starEach (e :: es) X.env)).all (fun y => !y.1) && (backToKw cpos (keywordEach [] X.env)).all (fun y => y.1.isSome) && decide ((e :: es).length + ([] : List Keyword).length + (if ([] : List Keyword).isEmpty then 0 else 1) < 30)) = true := by rfl)
    (hline : (apos.endLine == cpos.line) = true := by rfl) (hs : starEach (e :: es) X.env = (false, eval e X.env) :: starEach es X.env := by rfl) (hplain : (backTo cpos (starEach es X.env)).any (·.1) = false := by rfl) :
    PE X (.Call (.Attribute o name apos) (e :: es) [] cpos) (tBMN X.prog X.w r to t) := by
  constructor
  intro pns sh ρ H Qv Iv hx
  refine wpAny_Call_method_late hbase hfew hline rfl (thn (ho.run pns sh ρ H _ Iv hx) fun v s1 ⟨x, H1, I1, r1, ⟨a, rows, ex, D⟩, q1⟩ => ?_)
  subst ex
  cases r1
  obtain ⟨_, _, _, ob, _, hob, ⟨oc, od, _⟩, _⟩ := dn_raw I1 D
  refine ⟨"dict", id, pa, slot, hty, ⟨ob, hob, oc⟩, fun b eb => ?_, ?_⟩
  · cases eb
    exact ⟨ob, hob, od⟩
  have hA := ha.run cpos pns s1 ρ H1 _ I1 q1
  rw [hs] at hA ⊢
  refine Calls.callWith_builtin (by show (false || (backTo cpos (starEach es X.env)).any (·.1)) = false; rw [hplain]; rfl) (Calls.evalArgs_plain ?_)
  exact thn hA fun us s2 ⟨vs, H2, I2, r2, q2⟩ => hm pns s2 ρ H2 (.ref a) vs (.ref a) us Qv I2 rfl r2 q2
theorem pe_bmN0 (pa : PlainAttrs "dict") (slot : Slot "dict" name id) (hty : typeOf (.builtin id) = pure (.type "method_descriptor")) (hm : MtR X id r) (ho : PE X o to)
    (hbase : attributeBase o name X.env (eval o X.env) = eval o X.env := by rfl) (hline : (apos.endLine == cpos.line) = true := by rfl) : PE X (.Call (.Attribute o name apos) [] [] cpos) (tBMN0 X.prog X.w r to) := by
  constructor
  intro pns sh ρ H Qv Iv hx
  refine wpAny_Call_method0_late hbase hline (thn (ho.run pns sh ρ H _ Iv hx) fun v s1 ⟨x, H1, I1, r1, ⟨a, rows, ex, D⟩, q1⟩ => ?_)
  subst ex
  cases r1
  obtain ⟨_, _, _, ob, _, hob, ⟨oc, od, _⟩, _⟩ := dn_raw I1 D
  exact ⟨"dict", id, pa, slot, hty, ⟨ob, hob, oc⟩, (fun b eb => by cases eb; exact ⟨ob, hob, od⟩), Calls.callWith_builtin rfl (PySem.evalArgs_none (hm pns s1 ρ H1 (V.ref a) [] (Value.ref a) [] Qv I1 rfl .nil q1))⟩
end
abbrev s_find_candidates : Stmt := top 43
abbrev N_find_candidates : List Str := ["net", "index", "source", "goal", "first", "days", "wait", "ways", "target", "delay", "orders"]
abbrev P_find_candidates : List Str := ["net", "index"]
theorem sc_find_candidates : FnScope N_find_candidates P_find_candidates (defScope s_find_candidates) := ⟨rfl, rfl, rfl, by decide +kernel, rfl, by decide +kernel, by decide +kernel⟩
/-! ### all that a hidden order can be -/
def rowC (s t n : Nat) : List (Nat × Nat) := if t = s then [] else (List.range n).map fun d => (t, d + 1)
def candsL (h s : Nat) : List (Nat × Nat) := (List.range h).flatMap fun t => rowC s t 9
def setO (os : List Od) (k : Nat) (o : Od) (c : Nat × Nat) : List Od := os.take k ++ [⟨o.s, c.1, o.f, o.n, c.2⟩] ++ os.drop (k + 1)
def keyC (c : Nat × Nat) : List Key := [.inl (c.1 : Int), .inl (c.2 : Int)]
theorem keyC_inj {a b : Nat × Nat} (h : keyC a = keyC b) : a = b := by
  unfold keyC at h
  simp at h
  exact Prod.ext (by omega) (by omega)
structure CandsAt (p h : Nat) (os : List Od) (k : Nat) (o : Od) (H : Hp) (w : Addr) (cs : List ((Nat × Nat) × Addr)) : Prop where
  tab : H w = some (.dT (cs.map fun c => (keyC c.1, V.ref c.2)))
  ne : ∀ c ∈ cs, c.2 ≠ w
  ways : ∀ c ∈ cs, ∃ ks f, WaysAt p h (setO os k o c.1) H c.2 ks f ∧ ∀ q, q ∈ ks ↔ q ∈ lets p h
theorem CandsAt.same {p h k : Nat} {os : List Od} {o : Od} {H H' : Hp} {w : Addr} {cs : List ((Nat × Nat) × Addr)} (W : CandsAt p h os k o H w cs) (s : Same H H') : CandsAt p h os k o H' w cs :=
  ⟨s _ _ W.tab, W.ne, fun c hc => by
    obtain ⟨ks, f, a, b⟩ := W.ways c hc
    exact ⟨ks, f, a.same s, b⟩⟩
theorem valC_none {cs : List ((Nat × Nat) × Addr)} {c : Nat × Nat} (h : ∀ x ∈ cs, x.1 ≠ c) : valV (cs.map fun c => (keyC c.1, V.ref c.2)) (keyC c) = none := by
  induction cs with
  | nil => rfl
  | cons x r ih =>
    have h1 := h x (List.mem_cons_self ..)
    have ih := ih fun y hy => h y (List.mem_cons_of_mem _ hy)
    unfold valV at ih ⊢
    rw [List.map_cons, List.find?_cons_of_neg]
    · exact ih
    · intro z
      exact h1 (keyC_inj (of_decide_eq_true z))
theorem CandsAt.put {p h k : Nat} {os : List Od} {o : Od} {H : Hp} {w d : Addr} {cs : List ((Nat × Nat) × Addr)} {c : Nat × Nat} {ks : List (Nat × Nat)} {f : Nat × Nat → V} (W : CandsAt p h os k o H w cs) (hn : ∀ x ∈ cs, x.1 ≠ c) (nd : d ≠ w) (hw : WaysAt p h (setO os k o c) H d ks f) (hk : ∀ q, q ∈ ks ↔ q ∈ lets p h) :
    CandsAt p h os k o (upd H w (.dT (putK (cs.map fun c => (keyC c.1, V.ref c.2)) (keyC c) (.ref d)))) w (cs ++ [(c, d)]) := by
  have tk : TupKeep H (upd H w (.dT (putK (cs.map fun c => (keyC c.1, V.ref c.2)) (keyC c) (.ref d)))) := fun b xs e => (upd_ne (ne_of e W.tab (by intro z; cases z))).trans e
  have up : ∀ {os' : List Od} {e : Addr} {ks : List (Nat × Nat)} {f : Nat × Nat → V}, e ≠ w → WaysAt p h os' H e ks f → WaysAt p h os' (upd H w (.dT (putK (cs.map fun c => (keyC c.1, V.ref c.2)) (keyC c) (.ref d)))) e ks f := fun n a => ⟨(upd_ne n).trans a.tab, a.nd, a.ok, fun q hq => (a.ways q hq).keep tk⟩
  refine ⟨?_, fun x hx => ?_, fun x hx => ?_⟩
  · rw [upd_same, Cp.putK_new (valC_none hn), List.map_append]
    rfl
  · rcases List.mem_append.mp hx with z | z
    · exact W.ne x z
    · rw [List.mem_singleton.mp z]
      exact nd
  · rcases List.mem_append.mp hx with z | z
    · obtain ⟨ks', f', a, b⟩ := W.ways x z
      exact ⟨ks', f', up (W.ne x z) a, b⟩
    · rw [List.mem_singleton.mp z]
      exact ⟨ks, f, up nd hw, hk⟩
theorem set_ok {p h k : Nat} {os : List Od} {o : Od} {c : Nat × Nat} (ok : NetOk p h os) (ho : os[k]? = some o) (h1 : c.1 < h) (h2 : c.1 ≠ o.s) (h3 : 1 ≤ c.2) (h4 : c.2 ≤ 9) : NetOk p h (setO os k o c) := by
  have lt : k < os.length := (List.getElem?_eq_some_iff.mp ho).1
  obtain ⟨a1, a2, a3, a4, a5, a6, a7, a8⟩ := ok.ok o (List.mem_of_getElem? ho)
  have ol := ok.len
  refine ⟨ok.p1, ok.p30, ok.h1, ok.h10, ?_, fun x hx => ?_⟩
  · unfold setO
    rw [List.length_append, List.length_append, List.length_take, List.length_drop]
    show min k os.length + 1 + _ ≤ 20
    omega
  · unfold setO at hx
    rcases List.mem_append.mp hx with z | z
    · rcases List.mem_append.mp z with y | y
      · exact ok.ok x (List.mem_of_mem_take y)
      · rw [List.mem_singleton.mp y]
        exact ⟨a1, h1, fun e => h2 e.symm, a4, a5, a6, h3, h4⟩
    · exact ok.ok x (List.mem_of_mem_drop z)
theorem Paired.dropN {α β : Type} {F : α → β → Prop} : ∀ {xs : List α} {l : List β} (n : Nat), Paired F xs l → Paired F (xs.drop n) (l.drop n)
  | _, _, 0, q => q
  | _, _, _ + 1, .nil => .nil
  | _, _, n + 1, .cons _ t => Paired.dropN n t
theorem rowC_succ {s t n : Nat} (h : t ≠ s) : rowC s t (n + 1) = rowC s t n ++ [(t, n + 1)] := by
  unfold rowC
  rw [if_neg h, if_neg h, List.range_succ, List.map_append]
  rfl
theorem rowC_mem {s t n : Nat} {c : Nat × Nat} (h : c ∈ rowC s t n) : c.1 = t ∧ c.2 ≤ n := by
  unfold rowC at h
  split at h
  · cases h
  · obtain ⟨d, hd, rfl⟩ := List.mem_map.mp h
    have := List.mem_range.mp hd
    exact ⟨rfl, by show d + 1 ≤ n; omega⟩
theorem candsL_mem {s n : Nat} {c : Nat × Nat} (h : c ∈ candsL n s) : c.1 < n := by
  obtain ⟨t, ht, hc⟩ := List.mem_flatMap.mp h
  rw [(rowC_mem hc).1]
  exact List.mem_range.mp ht
theorem candsL_len : ∀ {n s : Nat}, (candsL n s).length ≤ 9 * n
  | 0, _ => Nat.le_refl _
  | n + 1, s => by
    unfold candsL
    rw [List.range_succ, List.flatMap_append, List.length_append]
    have h1 := candsL_len (n := n) (s := s)
    have h2 : ((List.range n).flatMap fun t => rowC s t 9).length ≤ 9 * n := h1
    have h3 : ([n].flatMap fun t => rowC s t 9).length ≤ 9 := by
      rw [List.flatMap_singleton]
      unfold rowC
      split
      · exact Nat.zero_le _
      · rw [List.length_map, List.length_range]
        exact Nat.le_refl _
    omega
def spCands (C : Addr) : Sp := fun vs H Q _ => ∃ (x t : Addr) (p h k : Nat) (os : List Od) (F : List Addr) (o : Od), vs = [.ref x, .int k] ∧ NetAt C H x p h os t F ∧ NetOk p h os ∧ os[k]? = some o ∧
  ∀ H' w cs, Same H H' → H w = none → CandsAt p h os k o H' w cs → cs.map (·.1) = candsL h o.s → Q (.ref w) H'
section
variable {P : Program} {w : World} {K : PySem.W.Frag} {mg : Str → Option Value} {base : Heap}
set_option maxHeartbeats 1000000 in
theorem ok_cands {f C fI : Addr} {fd fdI : FuncData} (F : Fun K "find_candidates" "find_candidates" s_find_candidates f fd) (B : Blt mg) (T : NetT K C) (M : Mk K C fI) (gC : mg "Net" = some (.ref C)) (GI : FnOk P w K mg base CX0 5 fI fdI P_Net_init (spInit C)) (bI : Binds K fdI P_Net_init [])
    (DW : Df P w K mg base "with_order" 1 P_with_order spWith) (DF : Df P w K mg base "find_ways" 4 P_find_ways (spFindWays C)) (hM : ∃ t, mg "LONGEST_DELAY" = some (.int 9 t)) : FnOk P w K mg base CX0 7 f fd P_find_candidates (spCands C) := by
  obtain ⟨fW, fdW, gW, kW, bW, GW⟩ := DW
  obtain ⟨fF, fdF, gF, kF, bF, GF⟩ := DF
  obtain ⟨tM, hM⟩ := hM
  refine F.ok sc_find_candidates (fun vs H Q E h => ?_) (fun cdv A outer s H vs Q E hr h => ?_)
  · obtain ⟨x, t, p, h, k, os, F, o, rfl, _⟩ := h
    rfl
  · obtain ⟨x, t, p, h, k, os, F, o, rfl, N, ok, ho, q⟩ := h
    have hr1 : Room 1 _ := hr.mono (by decide)
    have hr4 : Room 4 _ := hr.mono (by decide)
    have hu : (A.deeper (PyProof.Rows.envOfC "find_candidates" (defScope s_find_candidates) s.heap.objs.size f cdv)).units + 1 < cLine := hu_of hr
    refine ⟨_, pss_cons (ps_asg (pe_ix ix_tup (pe_fld (pv 0) rfl) (pv 1) (fun _ _ => rfl)) (pg_tup (by rfl) (pgs_cons (pg_name (i := 2) sc_find_candidates.nd rfl (.inl rfl)) (pgs_cons (pg_name (i := 3) sc_find_candidates.nd rfl (.inl rfl)) (pgs_cons (pg_name (i := 4) sc_find_candidates.nd rfl (.inl rfl)) (pgs_cons (pg_name (i := 5) sc_find_candidates.nd rfl (.inl rfl)) (pgs_cons (pg_name (i := 6) sc_find_candidates.nd rfl (.inl rfl)) pgs_nil)))))))
      (pss_cons (ps_set (i := 7) sc_find_candidates.nd rfl (.inl rfl) pe_dnewT)
      (pss_cons (ps_for PassesOwn.never rfl (pi_range1 rfl B.range (pa_cons (pe_fld (pv 0) rfl) pa_nil)) (pg_name (i := 8) sc_find_candidates.nd rfl (.inl rfl))
        (pss_one (ps_for PassesOwn.never rfl (pi_range2 rfl B.range (pa_cons pe_int (pa_cons (pe_op op_add (pe_glob (v := .int 9) rfl hM ⟨_, rfl⟩) pe_int) pa_nil))) (pg_name (i := 9) sc_find_candidates.nd rfl (.inl rfl))
          (pss_one (ps_if (pt_cmpR op_ne (pv 8) (pv 2) (nomark _))
            (pss_cons (ps_set (i := 10) sc_find_candidates.nd rfl (.inl rfl) (pe_call GW hr1 (by rfl) gW kW bW .nil pass0 (pa_cons (pe_fld (pv 0) rfl) (pa_cons (pv 1) (pa_cons (pe_tup (pa_cons (pv 2) (pa_cons (pv 8) (pa_cons (pv 4) (pa_cons (pv 5) (pa_cons (pv 9) pa_nil)))))) pa_nil)))))
            (pss_one (ps_dput hu (pv 7) (pe_tup (pa_cons (pv 8) (pa_cons (pv 9) pa_nil))) (pe_call GF hr4 (by rfl) gF kF bF .nil pass0 (pa_cons (pe_make M GI hr (by rfl) gC bI .nil pass0 (pa_cons (pe_fld (pv 0) rfl) (pa_cons (pe_fld (pv 0) rfl) (pa_cons (pv 10) pa_nil)))) pa_nil)) (by rfl)))) pss_nil)))))
      (pss_one (ps_ret (pv 7))))), ?_⟩
    obtain ⟨dx, fl, as, _, hx, ⟨ts, ht, hP⟩, _⟩ := id N
    have p30 := ok.p30; have h10 := ok.h10; have ol := ok.len
    have ltk : k < os.length := (List.getElem?_eq_some_iff.mp ho).1
    obtain ⟨v, hv, u, rfl, hu0⟩ := Paired.get? (i := k) hP ho
    have tl := hP.length
    refine ⟨_, rfl, x, C, dx, _, _, rfl, hx, T.cl, T.nO, nf_or, _, rfl, t, _, (k : Nat), _, rfl, rfl, SqT.of ht, atI_nat hv, ?_⟩
    refine ⟨u, _, rfl, SqT.of hu0, rfl, _, _, rfl, _, _, rfl, _, _, rfl, _, _, rfl, _, _, rfl, rfl, ?_⟩
    refine fun W nW => ?_
    have sW := same_upd (o := HO.dT []) nW
    refine ⟨_, rfl, x, C, dx, _, _, rfl, sW _ _ hx, T.cl, T.nH, nf_ho, (h : Int), rfl, by omega, by omega, ?_⟩
    refine for_range (lo := 0) (n := (h : Int).toNat) (fun i σ H' => ∃ (y8 y9 y10 : Option V) (cs : List ((Nat × Nat) × Addr)), σ = [some (.ref x), some (.int k), some (.int o.s), some (.int o.t), some (.int o.f), some (.int o.n), some (.int o.e), some (.ref W), y8, y9, y10] ∧ Same H H' ∧ CandsAt p h os k o H' W cs ∧ cs.map (·.1) = candsL i o.s)
      ⟨_, _, _, [], rfl, sW, ⟨upd_same, (fun c hc => by cases hc), fun c hc => by cases hc⟩, rfl⟩ ?_ ?_
    · rintro i σ H1 hi ⟨y8, y9, y10, cs, rfl, s1, C1, e1⟩
      rw [show (0 : Int) + (i : Int) = (i : Nat) from Int.zero_add _]
      have hih : i < h := by omega
      refine ⟨_, _, rfl, rfl, 1, 10, rfl, ⟨by decide, by decide, by decide, by decide⟩, ?_⟩
      refine for_range (lo := 1) (n := ((10 : Int) - 1).toNat) (fun j σ H' => ∃ (y9 y10 : Option V) (cs : List ((Nat × Nat) × Addr)), σ = [some (.ref x), some (.int k), some (.int o.s), some (.int o.t), some (.int o.f), some (.int o.n), some (.int o.e), some (.ref W), some (.int (i : Nat)), y9, y10] ∧ Same H H' ∧ CandsAt p h os k o H' W cs ∧ cs.map (·.1) = candsL i o.s ++ rowC o.s i j)
        ⟨_, _, cs, rfl, s1, C1, by rw [e1]; unfold rowC; split <;> exact (List.append_nil _).symm⟩ ?_ ?_
      · rintro j σ H2 hj ⟨y9, y10, cs, rfl, s2, C2, e2⟩
        have hj9 : j < 9 := hj
        rw [show (1 : Int) + (j : Int) = ((j + 1 : Nat) : Int) by omega]
        refine ⟨_, rfl, _, rfl, rfl, _, rfl, ?_⟩
        by_cases c : i = o.s
        · have e : (!decide (V.int (i : Nat) = V.int (o.s : Nat))) = false := by rw [c]; simp
          rw [e]
          refine iteF ⟨_, _, cs, rfl, s2, C2, ?_⟩
          rw [e2]
          unfold rowC
          rw [if_pos c, if_pos c]
        · have e : (!decide (V.int (i : Nat) = V.int (o.s : Nat))) = true := by
            rw [decide_eq_false (fun z => c (by have := V.int.inj z; omega))]
            rfl
          rw [e]
          refine iteT ?_
          have hx2 := s2 _ _ hx
          refine ⟨_, rfl, x, C, dx, _, _, rfl, hx2, T.cl, T.nO, nf_or, _, rfl, _, rfl, _, rfl, _, rfl, _, rfl, _, rfl, (by show 5 ≤ sizeLine; decide), fun u1 nu1 => ?_⟩
          have su := same_upd (o := HO.tup [.int o.s, .int (i : Nat), .int o.f, .int o.n, .int (j + 1 : Nat)]) nu1
          refine ⟨t, k, ts, _, rfl, su _ _ (s2 _ _ ht), by omega, fun H3 t3 s3 ht3 => ?_⟩
          have s23 := su.trans s3
          have hO3 : OrdsTup H3 t3 (setO os k o (i, j + 1)) := ⟨_, ht3, Paired.app (Paired.app (Paired.take (Paired.mapP hP fun _ _ z => z.keep (tk_of (s2.trans s23))) k) (.cons ⟨u1, rfl, s3 _ _ upd_same⟩ .nil)) (Paired.dropN (k + 1) (Paired.mapP hP fun _ _ z => z.keep (tk_of (s2.trans s23))))⟩
          have ok3 : NetOk p h (setO os k o (i, j + 1)) := set_ok ok ho hih c (by show 1 ≤ j + 1; omega) (by show j + 1 ≤ 9; omega)
          have hx3 := s23 _ _ hx2
          have C3 := C2.same s23
          refine ⟨_, rfl, x, C, dx, _, _, rfl, hx3, T.cl, T.nP, nf_pe, _, rfl, x, C, dx, _, _, rfl, hx3, T.cl, T.nH, nf_ho, _, rfl, ?_⟩
          intro x1 dx1 n1 n2 n3
          have s0 : Same H3 (upd (upd H3 dx1 (.own x1)) x1 (.ins C dx1 [])) := same_updN (same_upd n2) n1
          refine ⟨x1, dx1, t3, p, h, setO os k o (i, j + 1), H3, rfl, ok3, hO3.keep (tk_of s0), s0, n1, upd_same, fun H4 F1 s4 nF1 N1 => ⟨rfl, ?_⟩⟩
          refine ⟨x1, t3, p, h, setO os k o (i, j + 1), F1, rfl, N1, ok3, fun H5 d ks f s5 nd hw hk => ?_⟩
          have C5 := C3.same (s4.trans s5)
          have ndw : d ≠ W := (ne_of_none (s4 _ _ C3.tab) nd).symm
          refine ⟨_, rfl, _, rfl, _, rfl, (by show 2 ≤ sizeLine; decide), fun u2 nu2 => ?_⟩
          have su2 := same_upd (o := HO.tup [.int (i : Nat), .int (j + 1 : Nat)]) nu2
          have C6 := C5.same su2
          have hln : cs.length ≤ 100 := by
            have h1 : (cs.map (·.1)).length ≤ 100 := by
              rw [e2, List.length_append]
              have h2 := candsL_len (n := i) (s := o.s)
              have h3 : (rowC o.s i j).length ≤ 9 := by
                unfold rowC
                rw [if_neg c, List.length_map, List.length_range]
                omega
              omega
            rw [List.length_map] at h1
            exact h1
          refine ⟨W, _, rfl, DPut.t (k := keyC (i, j + 1)) C6.tab upd_same (by rw [List.length_map]; exact small1000 (by omega)), ?_⟩
          have hn : ∀ y ∈ cs, y.1 ≠ (i, j + 1) := fun y hy z => by
            have hm : y.1 ∈ cs.map (·.1) := List.mem_map.mpr ⟨y, hy, rfl⟩
            rw [e2, z] at hm
            rcases List.mem_append.mp hm with w1 | w1
            · exact absurd (candsL_mem w1) (Nat.lt_irrefl _)
            · have : j + 1 ≤ j := (rowC_mem w1).2
              omega
          refine ⟨_, _, cs ++ [((i, j + 1), d)], rfl, fun b o1 e3 => ?_, C6.put hn ndw (hw.same su2) hk, ?_⟩
          · rw [upd_ne (ne_of_none e3 nW)]
            exact su2 _ _ (s5 _ _ (s4 _ _ (s23 _ _ (s2 _ _ e3))))
          · rw [List.map_append, e2, rowC_succ c, List.append_assoc]
            rfl
      · rintro σ H2 ⟨y9, y10, cs, rfl, s2, C2, e2⟩
        refine ⟨_, _, _, cs, rfl, s2, C2, ?_⟩
        rw [e2]
        unfold candsL
        rw [List.range_succ, List.flatMap_append, List.flatMap_singleton]
        rfl
    · rintro σ H1 ⟨y8, y9, y10, cs, rfl, s1, C1, e1⟩
      exact ⟨_, rfl, q H1 W cs s1 nW C1 e1⟩
end
abbrev s_check_index : Stmt := top 24
abbrev N_check_index : List Str := ["orders", "index"]
abbrev P_check_index : List Str := ["orders", "index"]
theorem sc_check_index : FnScope N_check_index P_check_index (defScope s_check_index) := ⟨rfl, rfl, rfl, by decide +kernel, rfl, by decide +kernel, by decide +kernel⟩
def spChkIx : Sp := fun vs H Q _ => ∃ (t : Addr) (k : Nat) (ts : List V), vs = [.ref t, .int k] ∧ H t = some (.tup ts) ∧ k < ts.length ∧ Q .non H
section
variable {P : Program} {w : World} {K : PySem.W.Frag} {mg : Str → Option Value} {base : Heap}
theorem ok_chk_ix {f : Addr} {fd : FuncData} (F : Fun K "check_index" "check_index" s_check_index f fd) (B : Blt mg) (DW : Df P w K mg base "is_within" 2 P_is_within (spWithin K)) : FnOk P w K mg base CX0 3 f fd P_check_index spChkIx := by
  obtain ⟨fW, fdW, gW, kW, bW, GW⟩ := DW
  refine F.ok sc_check_index (fun vs H Q E h => ?_) (fun cdv A outer s H vs Q E hr h => ?_)
  · obtain ⟨t, k, ts, rfl, _⟩ := h
    rfl
  · obtain ⟨t, k, ts, rfl, ht, hk, q⟩ := h
    refine ⟨_, pss_one (ps_if (pt_not (pt_val (pe_call GW hr (by rfl) gW kW bW .nil pass0 (pa_cons (pv 1) (pa_cons pe_int (pa_cons (pe_op op_sub (pe_callB call_len_seq (by rfl) B.len PySem.boot_len (pa_cons (pv 0) pa_nil)) pe_int) pa_nil)))))) (pss_one ps_never) pss_nil), ?_⟩
    have e1 : ((ts.length : Int) - 1) = ((ts.length - 1 : Nat) : Int) := by omega
    refine ⟨_, rfl, _, rfl, t, _, rfl, .inr (SqT.of ht), _, _, rfl, rfl, _, 0, ((ts.length - 1 : Nat) : Int), congrArg (fun z : Int => [V.int (k : Nat), V.int 0, V.int z]) e1, .int, _, rfl, ?_⟩
    rw [show withinB (.int (k : Nat)) 0 ((ts.length - 1 : Nat) : Int) = true from within_nat (lo := 0) (by omega) (by omega)]
    exact iteF q
end
abbrev s_Watcher_init : Stmt := inClass (top 42) 0
abbrev N_Watcher_init : List Str := ["self", "net", "index"]
abbrev P_Watcher_init : List Str := ["self", "net", "index"]
theorem sc_Watcher_init : FnScope N_Watcher_init P_Watcher_init (defScope s_Watcher_init) := ⟨rfl, rfl, rfl, by decide +kernel, rfl, by decide +kernel, by decide +kernel⟩
/-! ### a watcher: its state -/
structure WatT (K : PySem.W.Frag) (O : Addr) : Prop where
  cl : Cls K O
  nN : NoAttr K O "net"
  nW : NoAttr K O "ways"
  nR : NoAttr K O "remaining"
  nA : NoAttr K O "accepted"
def WtFs (x w r a : Addr) : List (Str × V) := [("net", .ref x), ("ways", .ref w), ("remaining", .ref r), ("accepted", .ref a)]
theorem wf_n {x w r a : Addr} : (WtFs x w r a).lookup ("net" : Str) = some (.ref x) := by
  unfold WtFs
  rw [List.lookup_cons, beq_self_eq_true]
theorem w_ne : (("ways" : Str) == "net") = false ∧ (("remaining" : Str) == "net") = false ∧ (("remaining" : Str) == "ways") = false ∧ (("accepted" : Str) == "net") = false ∧ (("accepted" : Str) == "ways") = false ∧ (("accepted" : Str) == "remaining") = false := by decide +kernel
theorem wf_w {x w r a : Addr} : (WtFs x w r a).lookup ("ways" : Str) = some (.ref w) := by
  unfold WtFs
  rw [List.lookup_cons, w_ne.1]
  show (List.lookup ("ways" : Str) _) = _
  rw [List.lookup_cons, beq_self_eq_true]
theorem wf_r {x w r a : Addr} : (WtFs x w r a).lookup ("remaining" : Str) = some (.ref r) := by
  unfold WtFs
  rw [List.lookup_cons, w_ne.2.1]
  show (List.lookup ("remaining" : Str) _) = _
  rw [List.lookup_cons, w_ne.2.2.1]
  show (List.lookup ("remaining" : Str) _) = _
  rw [List.lookup_cons, beq_self_eq_true]
theorem wf_a {x w r a : Addr} : (WtFs x w r a).lookup ("accepted" : Str) = some (.ref a) := by
  unfold WtFs
  rw [List.lookup_cons, w_ne.2.2.2.1]
  show (List.lookup ("accepted" : Str) _) = _
  rw [List.lookup_cons, w_ne.2.2.2.2.1]
  show (List.lookup ("accepted" : Str) _) = _
  rw [List.lookup_cons, w_ne.2.2.2.2.2]
  show (List.lookup ("accepted" : Str) _) = _
  rw [List.lookup_cons, beq_self_eq_true]
/-- one observation: the letter and its result -/
abbrev Obs := (Nat × Nat) × Option (Nat × Nat)
def ObsAt (H : Hp) (v : V) (b : Obs) : Prop := ∃ u y, v = .ref u ∧ H u = some (.tup [.int b.1.1, .int b.1.2, y]) ∧ OptStop H y b.2
theorem ObsAt.keep {H H' : Hp} {v : V} {b : Obs} (k : TupKeep H H') (q : ObsAt H v b) : ObsAt H' v b := by
  obtain ⟨u, y, e, h1, h2⟩ := q
  exact ⟨u, y, e, k _ _ h1, h2.keep k⟩
structure WatS where
  x : Addr
  t : Addr
  p : Nat
  h : Nat
  os : List Od
  F : List Addr
  k : Nat
  o : Od
  w : Addr
  cs : List ((Nat × Nat) × Addr)
  r : Addr
  rem : List (Nat × Nat)
  a : Addr
  acc : List Obs
structure WatAt (O C : Addr) (H : Hp) (s : Addr) (S : WatS) : Prop where
  ins : ∃ dx, H s = some (.ins O dx (WtFs S.x S.w S.r S.a))
  net : NetAt C H S.x S.p S.h S.os S.t S.F
  ok : NetOk S.p S.h S.os
  ord : S.os[S.k]? = some S.o
  ways : CandsAt S.p S.h S.os S.k S.o H S.w S.cs
  all : S.cs.map (·.1) = candsL S.h S.o.s
  rem : ∃ vs, H S.r = some (.lst vs) ∧ Paired (StopAt H) vs S.rem
  sub : ∀ c ∈ S.rem, c ∈ candsL S.h S.o.s
  acc : ∃ vs, H S.a = some (.lst vs) ∧ Paired (ObsAt H) vs S.acc
theorem WatAt.same {O C : Addr} {H H' : Hp} {s : Addr} {S : WatS} (A : WatAt O C H s S) (e : Same H H') : WatAt O C H' s S := by
  obtain ⟨⟨dx, h1⟩, h2, h3, h4, h5, h6, ⟨rv, h7, h8⟩, h9, ⟨av, h10, h11⟩⟩ := A
  exact ⟨⟨dx, e _ _ h1⟩, h2.same e, h3, h4, h5.same e, h6, ⟨rv, e _ _ h7, Paired.mapP h8 fun _ _ z => z.keep (tk_of e)⟩, h9, ⟨av, e _ _ h10, Paired.mapP h11 fun _ _ z => z.keep (tk_of e)⟩⟩
theorem TupKeep.ins {H : Hp} {s O dx : Addr} {fs : List (Str × V)} {u : HO} (hs : H s = some (.ins O dx fs)) : TupKeep H (upd H s u) := fun b xs e => (upd_ne (ne_of e hs (by intro z; cases z))).trans e
theorem CandsAt.ins {p h k : Nat} {os : List Od} {o : Od} {H : Hp} {w s O dx : Addr} {fs : List (Str × V)} {u : HO} {cs : List ((Nat × Nat) × Addr)} (W : CandsAt p h os k o H w cs) (hs : H s = some (.ins O dx fs)) : CandsAt p h os k o (upd H s u) w cs :=
  ⟨(upd_ne (ne_of W.tab hs (by intro z; cases z))).trans W.tab, W.ne, fun c hc => by
    obtain ⟨ks, f, a, b⟩ := W.ways c hc
    exact ⟨ks, f, ⟨(upd_ne (ne_of a.tab hs (by intro z; cases z))).trans a.tab, a.nd, a.ok, fun q hq => (a.ways q hq).keep (.ins hs)⟩, b⟩⟩
theorem keys_stops {H : Hp} {cs : List ((Nat × Nat) × Addr)} {bs : List Addr} (h : IsKeys H (cs.map fun c => (keyC c.1, V.ref c.2)) bs) : Paired (StopAt H) (bs.map V.ref) (cs.map (·.1)) := by
  unfold IsKeys at h
  induction cs generalizing bs with
  | nil =>
    cases h
    exact .nil
  | cons c r ih =>
    cases h with
    | cons q t => exact .cons ⟨_, rfl, q⟩ (ih t)
def spWInit (O C : Addr) : Sp := fun vs H Q _ => ∃ (s dx x t : Addr) (p h k : Nat) (os : List Od) (F : List Addr) (o : Od) (H0 : Hp), vs = [.ref s, .ref x, .int k] ∧ NetAt C H0 x p h os t F ∧ NetOk p h os ∧ os[k]? = some o ∧ Same H0 H ∧ H0 s = none ∧ H s = some (.ins O dx []) ∧
  ∀ H' w cs r a, Same H0 H' → H0 r = none → H0 a = none → WatAt O C H' s ⟨x, t, p, h, os, F, k, o, w, cs, r, candsL h o.s, a, []⟩ → Q .non H'
def spWCands (O C : Addr) : Sp := fun vs H Q _ => ∃ (s : Addr) (S : WatS), vs = [.ref s] ∧ WatAt O C H s S ∧ ∀ H' r vs', Same H H' → H r = none → H' r = some (.lst vs') → Paired (StopAt H') vs' S.rem → Q (.ref r) H'
def spWHist (O C : Addr) : Sp := fun vs H Q _ => ∃ (s : Addr) (S : WatS), vs = [.ref s] ∧ WatAt O C H s S ∧ ∀ H' r vs', Same H H' → H r = none → H' r = some (.lst vs') → Paired (ObsAt H') vs' S.acc → Q (.ref r) H'
section
variable {P : Program} {w : World} {K : PySem.W.Frag} {mg : Str → Option Value} {base : Heap}
theorem wt_put {x w r a : Addr} : putF "accepted" (V.ref a) (putF "remaining" (V.ref r) (putF "ways" (V.ref w) (putF "net" (V.ref x) []))) = WtFs x w r a := by
  have h1 : ¬ ("net" : Str) = "ways" := by decide +kernel
  have h2 : ¬ ("net" : Str) = "remaining" := by decide +kernel
  have h3 : ¬ ("ways" : Str) = "remaining" := by decide +kernel
  have h4 : ¬ ("net" : Str) = "accepted" := by decide +kernel
  have h5 : ¬ ("ways" : Str) = "accepted" := by decide +kernel
  have h6 : ¬ ("remaining" : Str) = "accepted" := by decide +kernel
  simp only [putF, if_neg h1, if_neg h2, if_neg h3, if_neg h4, if_neg h5, if_neg h6]
  rfl
theorem wt_put_w {x w : Addr} : (putF "ways" (V.ref w) (putF "net" (V.ref x) [])).lookup ("ways" : Str) = some (.ref w) := by
  rw [lookup_putF, if_pos rfl]
theorem ok_w_init {f O C : Addr} {fd : FuncData} (F : Fun K "__init__" "Watcher.__init__" s_Watcher_init f fd) (hcB : mg "list" = none) (T : WatT K O) (TN : NetT K C) (DX : Df P w K mg base "check_index" 3 P_check_index spChkIx) (DC : Df P w K mg base "find_candidates" 7 P_find_candidates (spCands C)) :
    FnOk P w K mg base CX0 8 f fd P_Watcher_init (spWInit O C) := by
  obtain ⟨fX, fdX, gX, kX, bX, GX⟩ := DX
  obtain ⟨fC, fdC, gC, kC, bC, GC⟩ := DC
  refine F.ok sc_Watcher_init (fun vs H Q E h => ?_) (fun cdv A outer s0 H vs Q E hr h => ?_)
  · obtain ⟨s, dx, x, t, p, h, k, os, F, o, H0, rfl, _⟩ := h
    rfl
  · obtain ⟨s, dx, x, t, p, h, k, os, F, o, H0, rfl, N, ok, ho, sH, s0n, hs, q⟩ := h
    have hr3 : Room 3 _ := hr.mono (by decide)
    refine ⟨_, pss_cons (ps_expr (pe_call GX hr3 (by rfl) gX kX bX .nil pass0 (pa_cons (pe_fld (pv 1) rfl) (pa_cons (pv 2) pa_nil))))
      (pss_cons (ps_fld (pv 0) (pv 1) rfl)
      (pss_cons (ps_fld (pv 0) (pe_call GC hr (by rfl) gC kC bC .nil pass0 (pa_cons (pv 1) (pa_cons (pv 2) pa_nil))) rfl)
      (pss_cons (ps_fld (pv 0) (pe_callTy (call_list_dT rfl) (by rfl) hcB (by decide +kernel) (pa_cons (pe_fld (pv 0) rfl) pa_nil)) rfl)
      (pss_one (ps_fld (pv 0) (pe_lst pa_nil) rfl))))), ?_⟩
    have N1 := N.same sH
    obtain ⟨dx0, fl, as, _, hx, ⟨ts, ht, hP⟩, _⟩ := id N1
    have lt : k < ts.length := by
      rw [hP.length]
      exact (List.getElem?_eq_some_iff.mp ho).1
    have up : ∀ {H1 : Hp} {u : HO}, Same H0 H1 → Same H0 (upd H1 s u) := fun e b z h1 => (upd_ne (ne_of_none h1 s0n)).trans (e b z h1)
    refine ⟨_, rfl, x, C, dx0, _, _, rfl, hx, TN.cl, TN.nO, nf_or, _, rfl, t, k, ts, rfl, ht, lt, ?_⟩
    refine ⟨_, rfl, _, rfl, s, O, dx, [], rfl, hs, T.cl, T.nN, (by show 0 < 1000; decide), ?_⟩
    have sA := up (u := .ins O dx (putF "net" (.ref x) [])) sH
    have hsA : (upd H s (.ins O dx (putF "net" (.ref x) []))) s = some (.ins O dx (putF "net" (.ref x) [])) := upd_same
    generalize (upd H s (.ins O dx (putF "net" (.ref x) []))) = HA at sA hsA
    refine ⟨_, rfl, _, rfl, x, t, p, h, k, os, F, o, rfl, N.same sA, ok, ho, fun HB w cs sB nw CB eB => ?_⟩
    have nws : w ≠ s := (ne_of_none hsA nw).symm
    refine ⟨_, rfl, s, O, dx, _, rfl, sB _ _ hsA, T.cl, T.nW, (by show 1 < 1000; decide), ?_⟩
    have sC := up (u := .ins O dx (putF "ways" (.ref w) (putF "net" (.ref x) []))) (sA.trans sB)
    have hsC : (upd HB s (.ins O dx (putF "ways" (.ref w) (putF "net" (.ref x) [])))) s = some (.ins O dx (putF "ways" (.ref w) (putF "net" (.ref x) []))) := upd_same
    have CC := CB.ins (u := .ins O dx (putF "ways" (.ref w) (putF "net" (.ref x) []))) (sB _ _ hsA)
    generalize (upd HB s (.ins O dx (putF "ways" (.ref w) (putF "net" (.ref x) [])))) = HC at sC hsC CC
    refine ⟨_, rfl, s, O, dx, _, _, rfl, hsC, T.cl, T.nW, wt_put_w, w, _, rfl, .inl CC.tab, fun r bs nr hbs => ?_⟩
    have hrs := keys_stops hbs
    rw [eB] at hrs
    have sr := same_upd (o := HO.lst (bs.map V.ref)) nr
    have nrs : r ≠ s := (ne_of_none hsC nr).symm
    have l2 : (putF "ways" (V.ref w) (putF "net" (V.ref x) [])).length ≤ 2 := length_putF "ways" (V.ref w) (putF "net" (V.ref x) [])
    refine ⟨_, rfl, s, O, dx, _, rfl, sr _ _ hsC, T.cl, T.nR, by omega, ?_⟩
    have sD := up (u := .ins O dx (putF "remaining" (.ref r) (putF "ways" (.ref w) (putF "net" (.ref x) [])))) (sC.trans sr)
    have hsD : (upd (upd HC r (.lst (bs.map V.ref))) s (.ins O dx (putF "remaining" (.ref r) (putF "ways" (.ref w) (putF "net" (.ref x) []))))) s = some (.ins O dx (putF "remaining" (.ref r) (putF "ways" (.ref w) (putF "net" (.ref x) [])))) := upd_same
    have CD := (CC.same sr).ins (u := .ins O dx (putF "remaining" (.ref r) (putF "ways" (.ref w) (putF "net" (.ref x) [])))) (sr _ _ hsC)
    have hrD : (upd (upd HC r (.lst (bs.map V.ref))) s (.ins O dx (putF "remaining" (.ref r) (putF "ways" (.ref w) (putF "net" (.ref x) []))))) r = some (.lst (bs.map V.ref)) := (upd_ne nrs).trans upd_same
    have hrsD : Paired (StopAt (upd (upd HC r (.lst (bs.map V.ref))) s (.ins O dx (putF "remaining" (.ref r) (putF "ways" (.ref w) (putF "net" (.ref x) [])))))) (bs.map V.ref) (candsL h o.s) := Paired.mapP hrs fun _ _ z => (z.keep (tk_of sr)).keep (.ins (sr _ _ hsC))
    generalize (upd (upd HC r (.lst (bs.map V.ref))) s (.ins O dx (putF "remaining" (.ref r) (putF "ways" (.ref w) (putF "net" (.ref x) []))))) = HD at sD hsD CD hrD hrsD
    refine ⟨(by show 0 ≤ sizeLine; decide), fun a na => ?_⟩
    have sa := same_upd (o := HO.lst []) na
    have nas : a ≠ s := (ne_of_none hsD na).symm
    have l3 : (putF "remaining" (V.ref r) (putF "ways" (V.ref w) (putF "net" (V.ref x) []))).length ≤ 3 := Nat.le_trans (length_putF "remaining" (V.ref r) (putF "ways" (V.ref w) (putF "net" (V.ref x) []))) (by omega)
    refine ⟨_, rfl, s, O, dx, _, rfl, sa _ _ hsD, T.cl, T.nA, by omega, ?_⟩
    rw [wt_put]
    have sE := up (u := .ins O dx (WtFs x w r a)) (sD.trans sa)
    have tk : TupKeep HD (upd (upd HD a (.lst [])) s (.ins O dx (WtFs x w r a))) := (tk_of sa).trans (.ins (sa _ _ hsD))
    refine q _ w cs r a sE (sC.free nr) (sD.free na) ⟨⟨dx, upd_same⟩, N.same sE, ok, ho, (CD.same sa).ins (sa _ _ hsD), eB, ⟨_, (upd_ne nrs).trans (sa _ _ hrD), Paired.mapP hrsD fun _ _ z => z.keep tk⟩, fun c z => z, ⟨[], (upd_ne nas).trans upd_same, .nil⟩⟩
end
abbrev s_Watcher_candidates : Stmt := inClass (top 42) 3
abbrev N_Watcher_candidates : List Str := ["self"]
abbrev P_Watcher_candidates : List Str := ["self"]
theorem sc_Watcher_candidates : FnScope N_Watcher_candidates P_Watcher_candidates (defScope s_Watcher_candidates) := ⟨rfl, rfl, rfl, by decide +kernel, rfl, by decide +kernel, by decide +kernel⟩
section
variable {P : Program} {w : World} {K : PySem.W.Frag} {mg : Str → Option Value} {base : Heap}
theorem ok_w_cands {f O C : Addr} {fd : FuncData} (F : Fun K "candidates" "Watcher.candidates" s_Watcher_candidates f fd) (B : Blt mg) (T : WatT K O) : FnOk P w K mg base CX0 1 f fd P_Watcher_candidates (spWCands O C) := by
  refine F.ok sc_Watcher_candidates (fun vs H Q E h => ?_) (fun cdv A outer s H vs Q E hr h => ?_)
  · obtain ⟨s, S, rfl, _⟩ := h
    rfl
  · obtain ⟨s, S, rfl, A, q⟩ := h
    refine ⟨_, pss_one (ps_ret (pe_callTy call_list_of (by rfl) B.list (by decide +kernel) (pa_cons (pe_fld (pv 0) rfl) pa_nil))), ?_⟩
    obtain ⟨dx, h1⟩ := A.ins
    obtain ⟨rv, h7, h8⟩ := A.rem
    refine ⟨_, rfl, s, O, dx, _, _, rfl, h1, T.cl, T.nR, wf_r, S.r, rv, rfl, .inl (SqL.of h7), fun l nl => ?_⟩
    have sl := same_upd (o := HO.lst rv) nl
    exact q _ l rv sl nl upd_same (Paired.mapP h8 fun _ _ z => z.keep (tk_of sl))
end
abbrev s_Watcher_history : Stmt := inClass (top 42) 4
abbrev N_Watcher_history : List Str := ["self"]
abbrev P_Watcher_history : List Str := ["self"]
theorem sc_Watcher_history : FnScope N_Watcher_history P_Watcher_history (defScope s_Watcher_history) := ⟨rfl, rfl, rfl, by decide +kernel, rfl, by decide +kernel, by decide +kernel⟩
section
variable {P : Program} {w : World} {K : PySem.W.Frag} {mg : Str → Option Value} {base : Heap}
theorem ok_w_hist {f O C : Addr} {fd : FuncData} (F : Fun K "history" "Watcher.history" s_Watcher_history f fd) (B : Blt mg) (T : WatT K O) : FnOk P w K mg base CX0 1 f fd P_Watcher_history (spWHist O C) := by
  refine F.ok sc_Watcher_history (fun vs H Q E h => ?_) (fun cdv A outer s H vs Q E hr h => ?_)
  · obtain ⟨s, S, rfl, _⟩ := h
    rfl
  · obtain ⟨s, S, rfl, A, q⟩ := h
    refine ⟨_, pss_one (ps_ret (pe_callTy call_list_of (by rfl) B.list (by decide +kernel) (pa_cons (pe_fld (pv 0) rfl) pa_nil))), ?_⟩
    obtain ⟨dx, h1⟩ := A.ins
    obtain ⟨av, h7, h8⟩ := A.acc
    refine ⟨_, rfl, s, O, dx, _, _, rfl, h1, T.cl, T.nA, wf_a, S.a, av, rfl, .inl (SqL.of h7), fun l nl => ?_⟩
    have sl := same_upd (o := HO.lst av) nl
    exact q _ l av sl nl upd_same (Paired.mapP h8 fun _ _ z => z.keep (tk_of sl))
end
abbrev s_Watcher_result_with : Stmt := inClass (top 42) 7
abbrev N_Watcher_result_with : List Str := ["self", "candidate", "house", "day"]
abbrev P_Watcher_result_with : List Str := ["self", "candidate", "house", "day"]
theorem sc_Watcher_result_with : FnScope N_Watcher_result_with P_Watcher_result_with (defScope s_Watcher_result_with) := ⟨rfl, rfl, rfl, by decide +kernel, rfl, by decide +kernel, by decide +kernel⟩
/-! ### the result of a letter with one candidate -/
def candO (S : WatS) (c : Nat × Nat) : List Od := setO S.os S.k S.o c
theorem valC_some {cs : List ((Nat × Nat) × Addr)} {c : Nat × Nat} (h : c ∈ cs.map (·.1)) : ∃ d, (c, d) ∈ cs ∧ valV (cs.map fun c => (keyC c.1, V.ref c.2)) (keyC c) = some (.ref d) := by
  induction cs with
  | nil => cases h
  | cons x r ih =>
    by_cases e : x.1 = c
    · refine ⟨x.2, by rw [← e]; exact List.mem_cons_self .., ?_⟩
      unfold valV
      rw [List.map_cons, List.find?_cons_of_pos]
      · rfl
      · exact decide_eq_true (by rw [e])
    · rw [List.map_cons] at h
      rcases List.mem_cons.mp h with z | z
      · exact absurd z.symm e
      · obtain ⟨d, hd, hv⟩ := ih z
        refine ⟨d, List.mem_cons_of_mem _ hd, ?_⟩
        unfold valV at hv ⊢
        rw [List.map_cons, List.find?_cons_of_neg]
        · exact hv
        · intro y
          exact e (keyC_inj (of_decide_eq_true y))
theorem rowC_spec {s t n : Nat} {c : Nat × Nat} (h : c ∈ rowC s t n) : c.1 = t ∧ t ≠ s ∧ 1 ≤ c.2 ∧ c.2 ≤ n := by
  unfold rowC at h
  split at h
  · cases h
  · rename_i e
    obtain ⟨d, hd, rfl⟩ := List.mem_map.mp h
    have := List.mem_range.mp hd
    exact ⟨rfl, e, by show 1 ≤ d + 1; omega, by show d + 1 ≤ n; omega⟩
theorem cand_ok {p h k : Nat} {os : List Od} {o : Od} {c : Nat × Nat} (ok : NetOk p h os) (ho : os[k]? = some o) (hc : c ∈ candsL h o.s) : NetOk p h (setO os k o c) := by
  obtain ⟨t, ht, hr⟩ := List.mem_flatMap.mp hc
  obtain ⟨e, n, a, b⟩ := rowC_spec hr
  have := List.mem_range.mp ht
  exact set_ok ok ho (by omega) (by omega) a b
def spWRes (O C : Addr) : Sp := fun vs H Q _ => ∃ (s : Addr) (S : WatS) (v : V) (c : Nat × Nat) (hs dy : Nat), vs = [.ref s, v, .int hs, .int dy] ∧ WatAt O C H s S ∧ StopAt H v c ∧ c ∈ candsL S.h S.o.s ∧ hs < S.h ∧
  ∀ H' y, Same H H' → OptStop H' y (dst S.p S.h (candO S c) (hs, dy)) → Q y H'
section
variable {P : Program} {w : World} {K : PySem.W.Frag} {mg : Str → Option Value} {base : Heap}
theorem ok_w_res {f O C : Addr} {fd : FuncData} (F : Fun K "result_with" "Watcher.result_with" s_Watcher_result_with f fd) (T : WatT K O) (TN : NetT K C) (DR : Df P w K mg base "result_on" 2 P_result_on spResOn) : FnOk P w K mg base CX0 3 f fd P_Watcher_result_with (spWRes O C) := by
  obtain ⟨fR, fdR, gR, kR, bR, GR⟩ := DR
  refine F.ok sc_Watcher_result_with (fun vs H Q E h => ?_) (fun cdv A outer s0 H vs Q E hr h => ?_)
  · obtain ⟨s, S, v, c, hs, dy, rfl, _⟩ := h
    rfl
  · obtain ⟨s, S, v, c, hs, dy, rfl, W0, hv, hc, hh, q⟩ := h
    have hu : (A.deeper (PyProof.Rows.envOfC "Watcher.result_with" (defScope s_Watcher_result_with) s0.heap.objs.size f cdv)).units + 1 < cLine := hu_of hr
    refine ⟨_, pss_one (ps_ret (pe_call GR hr (by rfl) gR kR bR .nil pass0 (pa_cons (pv 3) (pa_cons (pe_dget hu (pe_dget hu (pe_fld (pv 0) rfl) (pv 1) (fun _ _ => rfl)) (pe_tup (pa_cons (pv 2) (pa_cons (pe_op op_modN (pv 3) (pe_fld (pe_fld (pv 0) rfl) rfl)) pa_nil))) (fun _ _ => rfl)) pa_nil)))), ?_⟩
    obtain ⟨dx, h1⟩ := W0.ins
    obtain ⟨u, rfl, hu1⟩ := hv
    have N := W0.net
    obtain ⟨dxn, fl, as, _, hx, _⟩ := id N
    obtain ⟨d, hd, hdv⟩ := valC_some (c := c) (cs := S.cs) (by rw [W0.all]; exact hc)
    obtain ⟨ks, g, hw, hk⟩ := W0.ways.ways _ hd
    have p1 := W0.ok.p1
    have ok2 := cand_ok W0.ok W0.ord hc
    have hin : plc S.p (hs, dy) ∈ ks := (hk _).mpr (mem_lets.mpr ⟨hh, Nat.mod_lt _ p1⟩)
    have hplc : ∀ z ∈ ks, plc S.p z = z := fun z hz => plc_lt (hw.ok z hz).2
    refine ⟨_, rfl, _, rfl, s, O, dx, _, _, rfl, h1, T.cl, T.nW, wf_w, _, rfl, S.w, .ref d, rfl, hdv ▸ DGet.t (k := keyC c) W0.ways.tab hu1, ?_⟩
    refine ⟨_, rfl, _, rfl, _, rfl, s, O, dx, _, _, rfl, h1, T.cl, T.nN, wf_n, S.x, C, dxn, _, _, rfl, hx, TN.cl, TN.nP, nf_pe, _, _, rfl, rfl, (by omega), (by show 2 ≤ sizeLine; decide), fun u2 nu2 => ?_⟩
    have su := same_upd (o := HO.tup [.int hs, .int ((dy : Int).fmod (S.p : Int))]) nu2
    have hu2 : (upd H u2 (.tup [.int hs, .int ((dy : Int).fmod (S.p : Int))])) u2 = some (.tup ((keyOf S.p (hs, dy)).map kV)) := by
      rw [upd_same, fmod_nat]
      rfl
    have hval : valV (wkv S.p ks g) (keyOf S.p (hs, dy)) = some (g (plc S.p (hs, dy))) := by rw [wkv_val hplc, if_pos hin]
    refine ⟨d, g (plc S.p (hs, dy)), rfl, hval ▸ DGet.t (su _ _ hw.tab) hu2, dy, _, _, rfl, (hw.ways _ hin).keep (tk_of su), fun H' y s2 hy => ?_⟩
    refine q H' y (su.trans s2) ?_
    unfold candO
    rw [dst_way ok2 hh]
    exact hy
end
abbrev s_check_result : Stmt := top 44
abbrev N_check_result : List Str := ["net", "result", "house", "day"]
abbrev P_check_result : List Str := ["net", "result"]
theorem sc_check_result : FnScope N_check_result P_check_result (defScope s_check_result) := ⟨rfl, rfl, rfl, by decide +kernel, rfl, by decide +kernel, by decide +kernel⟩
/-! ### a valid result passes -/
def spChkRes (C : Addr) : Sp := fun vs H Q _ => ∃ (x t : Addr) (p h : Nat) (os : List Od) (F : List Addr) (y : V) (r : Option (Nat × Nat)), vs = [.ref x, y] ∧ NetAt C H x p h os t F ∧ 1 ≤ h ∧ OptStop H y r ∧ (∀ c, r = some c → c.1 < h) ∧ Q .non H
section
variable {P : Program} {w : World} {K : PySem.W.Frag} {mg : Str → Option Value} {base : Heap}
theorem ok_chk_res {f C : Addr} {fd : FuncData} (F : Fun K "check_result" "check_result" s_check_result f fd) (B : Blt mg) (T : NetT K C) (DW : Df P w K mg base "is_within" 2 P_is_within (spWithin K)) (DI : Df P w K mg base "is_integer" 1 P_is_integer (spIsInt K)) : FnOk P w K mg base CX0 3 f fd P_check_result (spChkRes C) := by
  obtain ⟨fW, fdW, gW, kW, bW, GW⟩ := DW
  obtain ⟨fI, fdI, gI, kI, bI, GI⟩ := DI
  refine F.ok sc_check_result (fun vs H Q E h => ?_) (fun cdv A outer s H vs Q E hr h => ?_)
  · obtain ⟨x, t, p, h, os, F, y, r, rfl, _⟩ := h
    rfl
  · obtain ⟨x, t, p, h, os, F, y, r, rfl, N, h1, hy, hh, q⟩ := h
    have hr1 : Room 1 _ := hr.mono (by decide)
    refine ⟨_, pss_cons (ps_if (pt_cmpR op_isN (pv 1) pe_non (nomark _)) (pss_one ps_retN) pss_nil)
      (pss_cons (ps_if (PW.pt (pw_or (pt_not (pt_val (pe_callB call_isi (by rfl) B.isi PyProof.Rows.boot_isinstance (pa_cons (pv 1) (pa_cons (pe_bltn (v := .ty "tuple") (by rfl) B.tuple (by decide +kernel) rfl) pa_nil)))))
        (pw_or1 (pt_cmpR op_ne (pe_callB call_len_seq (by rfl) B.len PySem.boot_len (pa_cons (pv 1) pa_nil)) pe_int (nomark _))))) (pss_one ps_never) pss_nil)
      (pss_cons (ps_asg (pv 1) (pg_tup (by rfl) (pgs_cons (pg_name (i := 2) sc_check_result.nd rfl (.inl rfl)) (pgs_cons (pg_name (i := 3) sc_check_result.nd rfl (.inl rfl)) pgs_nil))))
      (pss_one (ps_if (PW.pt (pw_or (pt_not (pt_val (pe_call GW hr (by rfl) gW kW bW .nil pass0 (pa_cons (pv 2) (pa_cons pe_int (pa_cons (pe_op op_sub (pe_fld (pv 0) rfl) pe_int) pa_nil))))))
        (pw_or1 (pt_not (pt_val (pe_call GI hr1 (by rfl) gI kI bI .nil pass0 (pa_cons (pv 3) pa_nil))))))) (pss_one ps_never) pss_nil)))), ?_⟩
    obtain ⟨dx, fl, as, _, hx, _⟩ := id N
    cases r with
    | none =>
      obtain rfl : y = .non := hy
      exact ⟨_, rfl, rfl, _, rfl, iteT q⟩
    | some c =>
      obtain ⟨u, rfl, hu⟩ := hy
      have hc := hh c rfl
      refine ⟨_, rfl, rfl, _, rfl, iteF ⟨_, rfl, _, _, _, _, true, rfl, .ty "tuple", .base (.tup hu), kit_ty (by decide +kernel), _, rfl, iteF ⟨_, rfl, u, _, rfl, .inr (SqT.of hu), rfl, _, rfl, iteF ?_⟩⟩⟩
      refine ⟨_, rfl, u, _, rfl, SqT.of hu, rfl, _, _, rfl, _, _, rfl, rfl, ?_⟩
      have e1 : ((h : Int) - 1) = ((h - 1 : Nat) : Int) := by omega
      refine ⟨_, rfl, _, rfl, x, C, dx, _, _, rfl, hx, T.cl, T.nH, nf_ho, _, _, rfl, rfl, _, 0, ((h - 1 : Nat) : Int), congrArg (fun z : Int => [V.int (c.1 : Nat), V.int 0, V.int z]) e1, .int, _, rfl, ?_⟩
      rw [show withinB (.int (c.1 : Nat)) 0 ((h - 1 : Nat) : Int) = true from within_nat (lo := 0) (by omega) (by omega)]
      exact iteF ⟨_, rfl, _, rfl, .int, _, rfl, iteF q⟩
end
/-! ### with how many candidates a letter has each of its results -/
def resW (S : WatS) (hs dy : Nat) (c : Nat × Nat) : NK := dst S.p S.h (candO S c) (hs, dy)
def resL (S : WatS) (hs dy : Nat) : List NK := S.rem.map (resW S hs dy)
/-- the rows count the results -/
structure CntOk (rows : List NRow) (res : List NK) : Prop where
  keys : ∀ k, k ∈ rows.map (·.1) ↔ k ∈ res
  cnt : ∀ r ∈ rows, r.2.2 = .int (res.count r.1 : Nat)
theorem cnt_nil : CntOk [] [] := ⟨fun k => by simp, fun r h => nomatch h⟩
theorem valN_cnt {rows : List NRow} {res : List NK} (c : CntOk rows res) (k : NK) : (valN rows k).getD (.int 0) = .int (res.count k : Nat) := by
  unfold valN
  cases hf : rows.find? fun r => decide (r.1 = k) with
  | none =>
    rw [List.find?_eq_none] at hf
    have hn : k ∉ res := fun z => by
      obtain ⟨r, hr, e⟩ := List.mem_map.mp ((c.keys k).mpr z)
      exact hf r hr (decide_eq_true e)
    rw [List.count_eq_zero_of_not_mem hn]
    rfl
  | some r =>
    have hm := List.mem_of_find?_eq_some hf
    have hk : r.1 = k := by
      have := List.find?_some hf
      simpa using this
    show r.2.2 = _
    rw [c.cnt r hm, hk]
theorem cnt_put {rows : List NRow} {res : List NK} (c : CntOk rows res) (k : NK) (u : V) : CntOk (putN rows k u (.int ((res.count k : Nat) + 1))) (res ++ [k]) := by
  have e1 : ∀ l, (res ++ [k]).count l = res.count l + if l = k then 1 else 0 := fun l => by
    rw [List.count_append, List.count_singleton]
    by_cases q : k = l
    · rw [if_pos (beq_iff_eq.mpr q), if_pos q.symm]
    · rw [if_neg (fun z => q (beq_iff_eq.mp z)), if_neg (Ne.symm q)]
  unfold putN
  by_cases hk : k ∈ rows.map (·.1)
  · rw [if_pos hk]
    refine ⟨fun l => ?_, fun r hr => ?_⟩
    · rw [List.map_map, List.mem_append, List.mem_singleton]
      have e : ((fun r : NRow => r.1) ∘ fun r => if r.1 = k then (r.1, r.2.1, V.int ((res.count k : Nat) + 1)) else r) = fun r => r.1 := by
        funext r
        show (if r.1 = k then (r.1, r.2.1, V.int ((res.count k : Nat) + 1)) else r).1 = r.1
        split <;> rfl
      rw [e, c.keys]
      exact ⟨.inl, fun z => z.elim id fun y => by rw [y]; exact (c.keys k).mp hk⟩
    · obtain ⟨r0, h0, rfl⟩ := List.mem_map.mp hr
      by_cases q : r0.1 = k
      · rw [if_pos q]
        show V.int _ = V.int _
        rw [e1, if_pos q, q]
        rfl
      · rw [if_neg q, e1, if_neg q]
        exact c.cnt r0 h0
  · rw [if_neg hk]
    have hn : k ∉ res := fun z => hk ((c.keys k).mpr z)
    refine ⟨fun l => ?_, fun r hr => ?_⟩
    · rw [List.map_append, List.mem_append, List.mem_append, c.keys]
      rfl
    · rcases List.mem_append.mp hr with z | z
      · have q : ¬ r.1 = k := fun e => hk (by rw [← e]; exact List.mem_map.mpr ⟨r, z, rfl⟩)
        rw [e1, if_neg q]
        exact c.cnt r z
      · rw [List.mem_singleton.mp z]
        show V.int _ = V.int _
        rw [e1, if_pos rfl]
        rfl
theorem wf_no {x w r a : Addr} {m : Str} (h1 : ¬ m = "net") (h2 : ¬ m = "ways") (h3 : ¬ m = "remaining") (h4 : ¬ m = "accepted") : (WtFs x w r a).lookup m = none := by
  unfold WtFs
  simp only [List.lookup_cons, List.lookup_nil, beq_eq_false_iff_ne.mpr h1, beq_eq_false_iff_ne.mpr h2, beq_eq_false_iff_ne.mpr h3, beq_eq_false_iff_ne.mpr h4]
theorem opt_key {H : Hp} {v : V} {k : NK} (h : OptStop H v k) : KeyV H k v := by
  cases k with
  | none => exact h
  | some q => exact h
def spWCnt (P : Program) (w : World) (O C : Addr) : Sp := fun vs H Q _ => ∃ (s : Addr) (S : WatS) (hs dy : Nat), vs = [.ref s, .int hs, .int dy] ∧ WatAt O C H s S ∧ S.rem.length ≤ 100 ∧ hs < S.h ∧
  ∀ H' d rows, Same H H' → H d = none → DN P w H' d rows → CntOk rows (resL S hs dy) → rows.length ≤ 100 → Q (.ref d) H'
abbrev s_Watcher_count_results : Stmt := inClass (top 42) 8
abbrev N_Watcher_count_results : List Str := ["self", "house", "day", "counts", "candidate", "result"]
abbrev P_Watcher_count_results : List Str := ["self", "house", "day"]
theorem sc_Watcher_count_results : FnScope N_Watcher_count_results P_Watcher_count_results (defScope s_Watcher_count_results) := ⟨rfl, rfl, rfl, by decide +kernel, rfl, by decide +kernel, by decide +kernel⟩
section
variable {P : Program} {w : World} {K : PySem.W.Frag} {mg : Str → Option Value} {base : Heap}
theorem ok_w_cnt {f fR O C : Addr} {fd fdR : FuncData} (F : Fun K "count_results" "Watcher.count_results" s_Watcher_count_results f fd) (T : WatT K O) (mR : Meth K O "result_with" fR) (GR : FnOk P w K mg base CX0 3 fR fdR P_Watcher_result_with (spWRes O C)) (bR : Binds K fdR P_Watcher_result_with []) :
    FnOk P w K mg base CX0 4 f fd P_Watcher_count_results (spWCnt P w O C) := by
  refine F.ok sc_Watcher_count_results (fun vs H Q E h => ?_) (fun cdv A outer s0 H vs Q E hr h => ?_)
  · obtain ⟨s, S, hs, dy, rfl, _⟩ := h
    rfl
  · obtain ⟨s, S, hs, dy, rfl, W0, rl, hh, q⟩ := h
    have hu : (A.deeper (PyProof.Rows.envOfC "Watcher.count_results" (defScope s_Watcher_count_results) s0.heap.objs.size f cdv)).units + 2 < cLine := by
      have := hr.un
      omega
    refine ⟨_, pss_cons (ps_set (i := 3) sc_Watcher_count_results.nd rfl (.inl rfl) pe_dnewN)
      (pss_cons (ps_for PassesOwn.never rfl (pi_list (pe_fld (pv 0) rfl)) (pg_name (i := 4) sc_Watcher_count_results.nd rfl (.inl rfl))
        (pss_cons (ps_set (i := 5) sc_Watcher_count_results.nd rfl (.inl rfl) (pe_meth (pv 0) T.cl mR GR hr bR .nil pass0 (pa_cons (pv 4) (pa_cons (pv 1) (pa_cons (pv 2) pa_nil)))))
        (pss_one (ps_asg (pe_op op_add (pe_bmN PySem.F.plainAttrs_dict PySem.F.slot_dict_get PySem.F.type_dict_get (mt_getN hu) (pv 3) (pa_cons (pv 5) (pa_cons pe_int pa_nil))) pe_int) (pg_sub (pv 3) (pv 5) (set_dictN hu))))))
      (pss_one (ps_ret (pv 3)))), ?_⟩
    refine fun d nd sy => ?_
    obtain ⟨dx, h1⟩ := W0.ins
    obtain ⟨rv, h7, h8⟩ := W0.rem
    have sN := same_upd (o := dnO P w d []) nd
    refine ⟨_, rfl, s, O, dx, _, _, rfl, sN _ _ h1, T.cl, T.nR, wf_r, S.r, rfl, ⟨_, SqL.of (sN _ _ h7)⟩, ?_⟩
    refine for_list (K := K) (a := S.r) (xs := rv) (fun i σ H' => ∃ (y4 y5 : Option V) (rows : List NRow), σ = [some (.ref s), some (.int hs), some (.int dy), some (.ref d), y4, y5] ∧ Same H H' ∧ DN P w H' d rows ∧ CntOk rows ((S.rem.take i).map (resW S hs dy)) ∧ rows.length ≤ i)
      ⟨_, _, [], rfl, sN, dn_new sy, cnt_nil, Nat.le_refl _⟩ (fun i σ H' _ ⟨_, _, _, _, e, _⟩ => SqL.of (e _ _ h7)) ?_ ?_
    · rintro i v σ H2 hi ⟨y4, y5, rows, rfl, s2, D2, C2, l2⟩
      have lt : i < S.rem.length := by rw [← h8.length]; exact (List.getElem?_eq_some_iff.mp hi).1
      have ei := List.getElem?_eq_getElem lt
      obtain ⟨v', hv', hc⟩ := Paired.get? (i := i) h8 ei
      obtain rfl : v' = v := Option.some.inj (hv'.symm.trans hi)
      have hm := W0.sub _ (List.getElem_mem lt)
      rw [List.take_add_one, ei, List.map_append]
      generalize S.rem[i] = c at hc hm
      refine ⟨_, rfl, s, dx, _, rfl, s2 _ _ h1, wf_no (by decide +kernel) (by decide +kernel) (by decide +kernel) (by decide +kernel), _, rfl, _, rfl, _, rfl, s, S, v', c, hs, dy, rfl, W0.same s2, hc.keep (tk_of s2), hm, hh, fun H3 y s3 hy => ?_⟩
      have D3 := dn_same D2 s3
      have hk : KeyV H3 (resW S hs dy c) y := opt_key hy
      refine ⟨_, rfl, ⟨d, rows, rfl, D3⟩, _, rfl, d, rows, resW S hs dy c, y, .int 0, rfl, rfl, D3, hk, ?_⟩
      rw [valN_cnt C2]
      refine ⟨_, _, rfl, rfl, _, rfl, _, rfl, d, rows, resW S hs dy c, rfl, D3, hk, Nat.lt_of_le_of_lt l2 (small1000 (by omega)), ?_⟩
      refine ⟨_, _, _, rfl, fun b o e => ?_, dn_put D3 hk, cnt_put C2 _ _, Nat.le_trans putN_len (by omega)⟩
      rw [upd_ne (ne_of_none e nd)]
      exact s3 _ _ (s2 _ _ e)
    rintro σ H2 ⟨y4, y5, rows, rfl, s2, D2, C2, l2⟩
    rw [h8.length, List.take_of_length_le (Nat.le_refl _)] at C2
    exact ⟨_, rfl, q H2 d rows s2 nd D2 C2 (by rw [h8.length] at l2; omega)⟩
end
/-! ### all results that a letter can have -/
section
open PySem.W (alike alikeAll dataLt AllAlike Sortable dataLe)
theorem wr_uniq {l l' : List (Nat × Nat)} (h : l.Pairwise fun a b => ltS a b = true) (h' : l'.Pairwise fun a b => ltS a b = true) (e : ∀ s, s ∈ l ↔ s ∈ l') : l = l' := by
  have irr : ∀ s : Nat × Nat, ltS s s = false := fun s => ltS_no.mpr (by omega)
  have nd : ∀ {l : List (Nat × Nat)}, l.Pairwise (fun a b => ltS a b = true) → l.Nodup := fun h => List.Pairwise.imp (fun {a b} q e => by
    rw [e, irr] at q
    cases q) h
  have hp : l.Perm l' := (List.perm_ext_iff_of_nodup (nd h) (nd h')).mpr e
  refine List.Perm.eq_of_pairwise (le := fun a b => ltS a b = true) (fun a b _ _ h1 h2 => ?_) h h' hp
  have i1 := ltS_iff.mp h1
  have i2 := ltS_iff.mp h2
  omega
theorem wr_alike (l : List (Nat × Nat)) : AllAlike (l.map plD) := PySem.W.AllAlike.of fun a b => plD_alike a b
theorem wr_sortable (l : List (Nat × Nat)) : Sortable (l.map plD) := .inl fun d hd => by
  obtain ⟨s, _, rfl⟩ := List.mem_map.mp hd
  exact ⟨_, _, rfl⟩
theorem wrLe (a b : Nat × Nat) : dataLe false plD a b = !ltS b a := by
  rw [PySem.W.dataLe_eq, ← dataLt_pl]
  rfl
theorem wr_sort {l : List (Nat × Nat)} (nd : l.Nodup) : (l.mergeSort (dataLe false plD)).Pairwise (fun a b => ltS a b = true) ∧ ∀ s, s ∈ l.mergeSort (dataLe false plD) ↔ s ∈ l := by
  have hp : (l.mergeSort (dataLe false plD)).Perm l := List.mergeSort_perm _ _
  refine ⟨?_, fun s => hp.mem_iff⟩
  have h1 : (l.mergeSort (dataLe false plD)).Pairwise fun a b => dataLe false plD a b = true := PySem.W.sort_pairwise (PySem.W.sortLe_total _ _ _) _
  have h2 : (l.mergeSort (dataLe false plD)).Nodup := hp.nodup_iff.mpr nd
  refine (List.Pairwise.and h1 h2).imp ?_
  rintro a b ⟨q, ne⟩
  rw [wrLe] at q
  have i1 := ltS_no.mp (show ltS b a = false by simpa using q)
  refine ltS_iff.mpr ?_
  have : ¬ (a.1 = b.1 ∧ a.2 = b.2) := fun z => ne (Prod.ext z.1 z.2)
  omega
end
structure ResOk (l res : List NK) : Prop where
  ex : ∃ ds : List (Nat × Nat), l = (if none ∈ res then [none] else []) ++ ds.map some ∧ ds.Pairwise (fun a b => ltS a b = true) ∧ ∀ s, s ∈ ds ↔ some s ∈ res
theorem ResOk.mem {l res : List NK} (r : ResOk l res) (k : NK) : k ∈ l ↔ k ∈ res := by
  obtain ⟨ds, rfl, _, h⟩ := r.ex
  rw [List.mem_append]
  cases k with
  | none =>
    by_cases c : none ∈ res
    · rw [if_pos c]
      exact ⟨fun _ => c, fun _ => .inl (List.mem_singleton.mpr rfl)⟩
    · rw [if_neg c]
      refine ⟨fun z => ?_, fun z => absurd z c⟩
      rcases z with z | z
      · cases z
      · obtain ⟨_, _, e⟩ := List.mem_map.mp z
        cases e
  | some s =>
    rw [← h s]
    constructor
    · rintro (z | z)
      · split at z
        · cases List.mem_singleton.mp z
        · cases z
      · obtain ⟨_, hq, e⟩ := List.mem_map.mp z
        rw [← Option.some.inj e]
        exact hq
    · exact fun z => .inr (List.mem_map.mpr ⟨s, z, rfl⟩)
theorem ResOk.uniq {l l' res : List NK} (a : ResOk l res) (b : ResOk l' res) : l = l' := by
  obtain ⟨d, rfl, p, h⟩ := a.ex
  obtain ⟨d', rfl, p', h'⟩ := b.ex
  rw [wr_uniq p p' fun s => (h s).trans (h' s).symm]
def somes (rows : List NRow) : List (Nat × Nat) := rows.filterMap (·.1)
theorem mem_somes {rows : List NRow} {s : Nat × Nat} : s ∈ somes rows ↔ some s ∈ rows.map (·.1) := by
  unfold somes
  rw [List.mem_filterMap, List.mem_map]
theorem somes_nd {rows : List NRow} (nd : (rows.map (·.1)).Nodup) : (somes rows).Nodup := by
  unfold somes
  rw [List.nodup_iff_pairwise_ne, List.pairwise_filterMap]
  have := List.pairwise_map.mp (List.nodup_iff_pairwise_ne.mp nd)
  refine this.imp fun {a b} q x hx y hy e => q ?_
  rw [hx, hy, e]
/-- a comprehension over such a dict -/
theorem lc_keysN {P : Program} {w : World} {d D : Addr} {o : Obj} {rows : List NRow} {g : TG} {tt : TT} {te : TE} {ws : List Nat} {ρ : L2.St} {H1 : Hp} {Qe : Hp → Prop} (J : Nat → Hp → Prop) (j0 : J 0 (upd H1 D (.lst []))) (hl : ∀ i H, J i H → H d = some (.frz o (dnO P w d rows)))
    (step : ∀ i r H, rows[i]? = some r → J i H → g r.2.1 (wipe ρ ws) H fun σ2 H2 => wipe σ2 ws = wipe ρ ws ∧ tt σ2 H2 fun b H3 => if b = true then te σ2 H3 fun y H4 => ∃ acc, H4 D = some (.lst acc) ∧ acc.length < sizeLine ∧ J (i + 1) (upd H4 D (.lst (acc ++ [y]))) else J (i + 1) H3)
    (fin : ∀ H, J rows.length H → Qe H) :
    ∃ W : Nat → Nat → Hp → Prop, (∃ m, W 0 m (upd H1 D (.lst []))) ∧ ∀ i m H, W i m H →
  ((ItN P w d o rows).stop i H ∧ Qe H) ∨ ((ItN P w d o rows).go i H ∧ ∃ Nx : Hp → Prop, (∀ H', Nx H' → ∃ m', m' < m ∧ W (i + 1) m' H') ∧ ∀ x H', (ItN P w d o rows).yld i H x H' → g x (wipe ρ ws) H' fun σ2 H2 => wipe σ2 ws = wipe ρ ws ∧ tt σ2 H2 fun b H3 =>
    if b = true then te σ2 H3 fun y H4 => ∃ acc, H4 D = some (.lst acc) ∧ acc.length < sizeLine ∧ Nx (upd H4 D (.lst (acc ++ [y]))) else Nx H3) := by
  refine ⟨fun i m H => J i H ∧ i ≤ rows.length ∧ m = rows.length - i, ⟨_, j0, Nat.zero_le _, rfl⟩, ?_⟩
  rintro i m H ⟨j, le, rfl⟩
  by_cases c : i < rows.length
  · refine .inr ⟨⟨hl i H j, c⟩, J (i + 1), fun H' j' => ⟨_, (by omega), j', c, rfl⟩, ?_⟩
    rintro x H' ⟨rfl, r, hr, rfl⟩
    exact step i r H' hr j
  · have e : i = rows.length := by omega
    refine .inl ⟨⟨hl i H j, by show rows.length ≤ i; omega⟩, fin H ?_⟩
    rw [← e]
    exact j
theorem take_somes {rows : List NRow} {i : Nat} {r : NRow} (h : rows[i]? = some r) : somes (rows.take (i + 1)) = somes (rows.take i) ++ r.1.toList := by
  unfold somes
  rw [List.take_add_one, h, List.filterMap_append]
  congr 1
theorem valN_some {rows : List NRow} {k : NK} : (valN rows k).isSome = decide (k ∈ rows.map (·.1)) := by
  unfold valN
  rw [Option.isSome_map, Bool.eq_iff_iff, List.find?_isSome, decide_eq_true_iff, List.mem_map]
  simp
theorem Paired.mapO {H : Hp} : ∀ {vs : List V} {l : List (Nat × Nat)}, Paired (StopAt H) vs l → Paired (OptStop H) vs (l.map some)
  | _, _, .nil => .nil
  | _, _, .cons h t => .cons h (Paired.mapO t)
def spWRess (O C : Addr) : Sp := fun vs H Q _ => ∃ (s : Addr) (S : WatS) (hs dy : Nat), vs = [.ref s, .int hs, .int dy] ∧ WatAt O C H s S ∧ S.rem.length ≤ 100 ∧ hs < S.h ∧ dy ≤ 1000000000000000000 ∧
  ∀ H' r ws l, Same H H' → H r = none → H' r = some (.lst ws) → Paired (OptStop H') ws l → ResOk l (resL S hs dy) → l.length ≤ 101 → Q (.ref r) H'
abbrev s_Watcher_results : Stmt := inClass (top 42) 5
abbrev N_Watcher_results : List Str := ["self", "house", "day", "found", "delivered", "result"]
abbrev P_Watcher_results : List Str := ["self", "house", "day"]
theorem sc_Watcher_results : FnScope N_Watcher_results P_Watcher_results (defScope s_Watcher_results) := ⟨rfl, rfl, rfl, by decide +kernel, rfl, by decide +kernel, by decide +kernel⟩
section
variable {P : Program} {w : World} {K : PySem.W.Frag} {mg : Str → Option Value} {base : Heap}
theorem ok_w_ress {f fC O C : Addr} {fd fdC : FuncData} (F : Fun K "results" "Watcher.results" s_Watcher_results f fd) (T : WatT K O) (zo : mg "sorted" = none) (DL : Df P w K mg base "check_letter" 4 P_check_letter (spLetter C))
    (mC : Meth K O "count_results" fC) (GC : FnOk P w K mg base CX0 4 fC fdC P_Watcher_count_results (spWCnt P w O C)) (bC : Binds K fdC P_Watcher_count_results []) : FnOk P w K mg base CX0 5 f fd P_Watcher_results (spWRess O C) := by
  obtain ⟨fL, fdL, gL, kL, bL, GL⟩ := DL
  refine F.ok sc_Watcher_results (fun vs H Q E h => ?_) (fun cdv A outer s0 H vs Q E hr h => ?_)
  · obtain ⟨s, S, hs, dy, rfl, _⟩ := h
    rfl
  · obtain ⟨s, S, hs, dy, rfl, W0, rl, hh, hd, q⟩ := h
    have hu : (A.deeper (PyProof.Rows.envOfC "Watcher.results" (defScope s_Watcher_results) s0.heap.objs.size f cdv)).units + 65 < cLine := by
      have := hr.un
      omega
    have hu2 : (A.deeper (PyProof.Rows.envOfC "Watcher.results" (defScope s_Watcher_results) s0.heap.objs.size f cdv)).units + 2 < cLine := by omega
    refine ⟨_, pss_cons (ps_expr (pe_call GL hr (by rfl) gL kL bL .nil pass0 (pa_cons (pe_fld (pv 0) rfl) (pa_cons (pv 1) (pa_cons (pv 2) pa_nil)))))
      (pss_cons (ps_set (i := 3) sc_Watcher_results.nd rfl (.inl rfl) (pe_meth (pv 0) T.cl mC GC hr bC .nil pass0 (pa_cons (pv 1) (pa_cons (pv 2) pa_nil))))
      (pss_cons (ps_set (i := 4) sc_Watcher_results.nd rfl (.inl rfl) (pe_callB (cr_sortedD plD hu) (by rfl) zo PyProof.Rows.boot_sorted (pa_cons (pe_lock (pe_lc (own := [("result", 5)]) (g := gName 5) (tt := tNotN (tVar 5)) (te := tVar 5) (by rfl) sc_Watcher_results.nd (pi_keysN (pv 3)) (blkOk_by (N := N_Watcher_results) (sc := defScope s_Watcher_results) (by decide +kernel))
          (fun _ _ _ _ _ => pg_name (i := 5) sc_Watcher_results.nd rfl (.inl rfl)) (fun _ _ _ _ _ => pts_one (pt_cmpR op_notN (pv 5) pe_non (nomark _))) (fun _ _ _ _ _ => pv 5))) pa_nil)))
      (pss_cons (ps_if (pt_cmpR (op_inN hu2) pe_non (pv 3) rfl) (pss_one (ps_ret (pe_op op_cat (pe_lst (pa_cons pe_non pa_nil)) (pv 4)))) pss_nil)
      (pss_one (ps_ret (pv 4)))))), ?_⟩
    obtain ⟨dx, h1⟩ := W0.ins
    have sn : ∀ {Ha Hb : Hp} {b : Addr}, Same Ha Hb → Hb b = none → Ha b = none := fun {Ha Hb b} e z => by
      cases q : Ha b with
      | none => rfl
      | some o => rw [e _ _ q] at z; cases z
    refine ⟨_, rfl, s, O, dx, _, _, rfl, h1, T.cl, T.nN, wf_n, _, rfl, _, rfl, S.x, S.t, S.p, S.h, hs, dy, S.os, S.F, rfl, W0.net, hh, hd, ?_⟩
    refine ⟨_, rfl, s, dx, _, rfl, h1, wf_no (by decide +kernel) (by decide +kernel) (by decide +kernel) (by decide +kernel), _, rfl, _, rfl, s, S, hs, dy, rfl, W0, rl, hh, fun H1 d rows s1 nd D1 C1 l1 => ?_⟩
    have sd : (d == sysModules) = false := D1.sys
    refine ⟨d, dnO P w d rows, D1.at_, True.intro, fun od => ⟨_, rfl, d, od, rows, rfl, sd, upd_same, fun L nL => ?_⟩⟩
    have nLd : d ≠ L := ne_of_none upd_same nL
    have nL1 : H1 L = none := (upd_ne (Ne.symm nLd)).symm.trans nL
    have ll : ∀ i, (somes (rows.take i)).length ≤ i := fun i => Nat.le_trans (List.length_filterMap_le _ _) (List.length_take_le _ _)
    refine lc_keysN (P := P) (w := w) (d := d) (o := od) (rows := rows) (fun i H' => ∃ acc, H' = upd (upd H1 d (.frz od (dnO P w d rows))) L (.lst acc) ∧ Paired (StopAt H1) acc (somes (rows.take i)))
      ⟨[], rfl, .nil⟩ (fun i H' ⟨_, e, _⟩ => by rw [e]; exact (upd_ne nLd).trans upd_same) ?_ ?_
    · rintro i r H' hr ⟨acc, rfl, hp⟩
      have hk := D1.keys r (List.mem_of_getElem? hr)
      have lt : i < rows.length := (List.getElem?_eq_some_iff.mp hr).1
      rw [take_somes hr]
      cases e : r.1 with
      | none =>
        rw [e] at hk
        have e2 : r.2.1 = .non := hk
        rw [e2]
        exact ⟨rfl, _, rfl, rfl, _, rfl, ite2 (fun z => by cases z) (fun _ => ⟨acc, rfl, by show Paired _ acc (_ ++ []); rw [List.append_nil]; exact hp⟩)⟩
      | some q =>
        rw [e] at hk
        obtain ⟨u, e2, hu2⟩ := hk
        rw [e2]
        refine ⟨rfl, _, rfl, rfl, _, rfl, ite2 (fun _ => ⟨_, rfl, acc, upd_same, ?_, acc ++ [.ref u], upd_upd, Paired.snoc hp ⟨u, rfl, hu2⟩⟩) (fun z => absurd rfl z)⟩
        rw [hp.length]
        exact Nat.lt_of_le_of_lt (ll i) (small1000 (by omega))
    · rintro H' ⟨acc, rfl, hp⟩
      rw [List.take_of_length_le (Nat.le_refl _)] at hp
      refine ⟨(upd_ne nLd).trans upd_same, ?_⟩
      have eH : upd (upd (upd H1 d (.frz od (dnO P w d rows))) L (.lst acc)) d (dnO P w d rows) = upd H1 L (.lst acc) := by
        funext b
        by_cases b1 : b = d
        · rw [b1, upd_same, upd_ne nLd, D1.at_]
        · rw [upd_ne b1]
          by_cases b2 : b = L
          · rw [b2, upd_same, upd_same]
          · rw [upd_ne b2, upd_ne b1, upd_ne b2]
      rw [eH]
      have sL := same_upd (o := HO.lst acc) nL1
      have hp2 := StopsAt.keep (tk_of sL) hp
      obtain ⟨so1, so2⟩ := wr_sort (somes_nd D1.nd)
      refine ⟨L, acc, somes rows, StopAt H1, rfl, SqL.of upd_same, hp, stops_dp hp2, wr_alike _, wr_sortable _, fun b _ => plD_depth b, fun ys Z hys nZ => ?_⟩
      have sZ := same_upd (o := HO.lst ys) nZ
      have sA : Same H1 (upd (upd H1 L (.lst acc)) Z (.lst ys)) := sL.trans sZ
      have D2 := dn_same D1 sA
      generalize hY : (somes rows).mergeSort (PySem.W.dataLe false plD) = Y at hys so1 so2
      have hZ : (upd (upd H1 L (.lst acc)) Z (.lst ys)) Z = some (.lst ys) := upd_same
      have hysO : Paired (OptStop (upd (upd H1 L (.lst acc)) Z (.lst ys))) ys (Y.map some) := Paired.mapO (StopsAt.keep (tk_of sA) hys)
      have Yl : Y.length ≤ 100 := by
        have h1 := hY ▸ (List.mergeSort_perm (somes rows) (PySem.W.dataLe false plD)).length_eq
        have h2 : (somes rows).length ≤ rows.length := List.length_filterMap_le _ _
        omega
      have mem : ∀ s, s ∈ Y ↔ some s ∈ resL S hs dy := fun s => (so2 s).trans (mem_somes.trans (C1.keys _))
      have iv : (valN rows none).isSome = decide (none ∈ resL S hs dy) := by
        rw [valN_some]
        exact decide_eq_decide.mpr (C1.keys _)
      generalize hHH : upd (upd H1 L (.lst acc)) Z (.lst ys) = HH at *
      refine ⟨_, rfl, d, rows, none, rfl, D2, rfl, _, rfl, ?_⟩
      rw [iv]
      refine ite2 (fun c => ?_) (fun c => ?_)
      · have c1 : none ∈ resL S hs dy := of_decide_eq_true c
        refine ⟨Nat.one_le_two_pow, fun u nu => ?_⟩
        have su := same_upd (o := HO.lst [.non]) nu
        have nuZ : Z ≠ u := ne_of_none hZ nu
        refine ⟨_, rfl, u, Z, [.non], ys, rfl, rfl, upd_same, su _ _ hZ, ?_, fun r nr => ?_⟩
        · rw [hys.length]
          exact Nat.le_of_lt (small1000 (by show 1 + Y.length ≤ 1000; omega))
        · have sr := same_upd (o := HO.lst ([.non] ++ ys)) nr
          have sB := su.trans sr
          have hnn : OptStop (upd (upd HH u (HO.lst [V.non])) r (HO.lst ([.non] ++ ys))) .non none := rfl
          exact q _ r (.non :: ys) (none :: Y.map some) ((s1.trans sA).trans sB) (sn ((s1.trans sA).trans su) nr) upd_same (.cons hnn (Paired.mapP hysO fun _ _ z => OptStop.keep (tk_of sB) z)) ⟨Y, by rw [if_pos c1]; rfl, so1, mem⟩ (by rw [List.length_cons, List.length_map]; omega)
      · have c1 : ¬ none ∈ resL S hs dy := fun z => c (decide_eq_true z)
        exact ⟨_, rfl, q HH Z ys (Y.map some) (s1.trans sA) (sn (s1.trans sL) nZ) hZ hysO ⟨Y, by rw [if_neg c1]; rfl, so1, mem⟩ (by rw [List.length_map]; omega)⟩
end
/-! ### the first letter whose result leaves the fewest candidates -/
section
open PySem.W (alike alikeAll dataLt minD AlikeAll)
def ltB (a b : Nat × Nat × Nat) : Bool := if a.1 = b.1 then (if a.2.1 = b.2.1 then decide (a.2.2 < b.2.2) else decide (a.2.1 < b.2.1)) else decide (a.1 < b.1)
theorem ltB_iff {a b : Nat × Nat × Nat} : ltB a b = true ↔ a.1 < b.1 ∨ (a.1 = b.1 ∧ (a.2.1 < b.2.1 ∨ (a.2.1 = b.2.1 ∧ a.2.2 < b.2.2))) := by
  unfold ltB
  by_cases c : a.1 = b.1
  · rw [if_pos c]
    by_cases c2 : a.2.1 = b.2.1
    · rw [if_pos c2, decide_eq_true_iff]
      omega
    · rw [if_neg c2, decide_eq_true_iff]
      omega
  · rw [if_neg c, decide_eq_true_iff]
    omega
theorem ltB_no {a b : Nat × Nat × Nat} : ltB a b = false ↔ ¬ (a.1 < b.1 ∨ (a.1 = b.1 ∧ (a.2.1 < b.2.1 ∨ (a.2.1 = b.2.1 ∧ a.2.2 < b.2.2)))) := by
  rw [← ltB_iff]
  cases ltB a b <;> simp
def b3D (z : Nat × Nat × Nat) : PyData := .tuple [.int z.1, .int z.2.1, .int z.2.2]
theorem b3D_lt (a b : Nat × Nat × Nat) : dataLt (b3D a) (b3D b) = ltB a b := by
  unfold b3D ltB
  rw [PySem.W.dataLt_tuple]
  by_cases e1 : a.1 = b.1
  · rw [if_pos e1, PySem.W.dataLt_all_yes (by simp [alike]) (by rw [int_eqv, e1]; exact decide_eq_true rfl)]
    by_cases e2 : a.2.1 = b.2.1
    · rw [if_pos e2, PySem.W.dataLt_all_yes (by simp [alike]) (by rw [int_eqv, e2]; exact decide_eq_true rfl)]
      by_cases e3 : a.2.2 = b.2.2
      · rw [PySem.W.dataLt_all_yes (by simp [alike]) (by rw [int_eqv, e3]; exact decide_eq_true rfl), e3, decide_eq_false (Nat.lt_irrefl _)]
        simp [PySem.W.keyToksAll, PyProof.Rows.lexLt]
        rfl
      · rw [PySem.W.dataLt_all_no (by simp [alike]) (by rw [int_eqv]; exact decide_eq_false (by omega)), PySem.W.dataLt_int]
        by_cases c : a.2.2 < b.2.2
        · rw [decide_eq_true c, decide_eq_true (by omega)]
        · rw [decide_eq_false c, decide_eq_false (by omega)]
    · rw [if_neg e2, PySem.W.dataLt_all_no (by simp [alike]) (by rw [int_eqv]; exact decide_eq_false (by omega)), PySem.W.dataLt_int]
      by_cases c : a.2.1 < b.2.1
      · rw [decide_eq_true c, decide_eq_true (by omega)]
      · rw [decide_eq_false c, decide_eq_false (by omega)]
  · rw [if_neg e1, PySem.W.dataLt_all_no (by simp [alike]) (by rw [int_eqv]; exact decide_eq_false (by omega)), PySem.W.dataLt_int]
    by_cases c : a.1 < b.1
    · rw [decide_eq_true c, decide_eq_true (by omega)]
    · rw [decide_eq_false c, decide_eq_false (by omega)]
def minB (x : Nat × Nat × Nat) (xs : List (Nat × Nat × Nat)) : Nat × Nat × Nat := xs.foldl (fun a y => if ltB y a then y else a) x
theorem minD_b3 : ∀ (xs : List (Nat × Nat × Nat)) (x : Nat × Nat × Nat), minD (b3D x) (xs.map b3D) = b3D (minB x xs)
  | [], x => rfl
  | y :: ys, x => by
    show minD (if dataLt (b3D y) (b3D x) = true then b3D y else b3D x) (ys.map b3D) = b3D (minB (if ltB y x then y else x) ys)
    rw [b3D_lt]
    by_cases c : ltB y x = true
    · rw [if_pos c, if_pos c]
      exact minD_b3 ys y
    · rw [if_neg c, if_neg c]
      exact minD_b3 ys x
theorem minB_spec : ∀ (xs : List (Nat × Nat × Nat)) (x : Nat × Nat × Nat), minB x xs ∈ x :: xs ∧ ∀ y ∈ x :: xs, ltB y (minB x xs) = false
  | [], x => ⟨List.mem_cons_self, fun y hy => by
    rw [List.mem_singleton.mp hy]
    exact ltB_no.mpr (by show ¬ (x.1 < x.1 ∨ (x.1 = x.1 ∧ (x.2.1 < x.2.1 ∨ (x.2.1 = x.2.1 ∧ x.2.2 < x.2.2)))); omega)⟩
  | z :: r, x => by
    obtain ⟨h1, h2⟩ := minB_spec r (if ltB z x then z else x)
    have e : minB x (z :: r) = minB (if ltB z x then z else x) r := rfl
    rw [e]
    have h3 := ltB_no.mp (h2 _ List.mem_cons_self)
    refine ⟨?_, fun y hy => ?_⟩
    · rcases List.mem_cons.mp h1 with q | q
      · rw [q]
        split <;> simp
      · exact List.mem_cons_of_mem _ (List.mem_cons_of_mem _ q)
    · generalize minB (if ltB z x then z else x) r = m at h2 h3
      by_cases c : ltB z x = true
      · rw [if_pos c] at h3 h2
        have c' := ltB_iff.mp c
        rcases List.mem_cons.mp hy with q | q
        · rw [q]
          exact ltB_no.mpr (by omega)
        · rcases List.mem_cons.mp q with q | q
          · rw [q]
            exact ltB_no.mpr h3
          · exact h2 y (List.mem_cons_of_mem _ q)
      · rw [if_neg c] at h3 h2
        have c' := ltB_no.mp (Bool.eq_false_iff.mpr c)
        rcases List.mem_cons.mp hy with q | q
        · rw [q]
          exact ltB_no.mpr h3
        · rcases List.mem_cons.mp q with q | q
          · rw [q]
            exact ltB_no.mpr (by omega)
          · exact h2 y (List.mem_cons_of_mem _ q)
theorem b3D_inj {a b : Nat × Nat × Nat} (e : b3D a = b3D b) : a = b := by
  unfold b3D at e
  simp at e
  exact Prod.ext (by omega) (Prod.ext (by omega) (by omega))
theorem b3_alike (l : List (Nat × Nat × Nat)) : AlikeAll (l.map b3D) := by
  refine ⟨fun x hx y hy => ?_, fun x hx => ?_⟩
  · obtain ⟨s, _, rfl⟩ := List.mem_map.mp hx
    obtain ⟨t, _, rfl⟩ := List.mem_map.mp hy
    simp [b3D, alike, alikeAll]
  · obtain ⟨s, _, rfl⟩ := List.mem_map.mp hx
    intro e
    cases e
theorem b3_depth (l : List (Nat × Nat × Nat)) : PyData.depthAll (l.map b3D) ≤ 1 := by
  induction l with
  | nil => simp [PyData.depthAll]
  | cons z r ih =>
    have e : (b3D z).depth = 1 := by simp [b3D, PyData.depth, PyData.depthAll]
    rw [List.map_cons, PyData.depthAll]
    omega
def BAt (H : Hp) (v : V) (z : Nat × Nat × Nat) : Prop := ∃ u, v = .ref u ∧ H u = some (.tup [.int z.1, .int z.2.1, .int z.2.2])
theorem BAt.keep {H H' : Hp} {v : V} {z : Nat × Nat × Nat} (k : TupKeep H H') (q : BAt H v z) : BAt H' v z := by
  obtain ⟨u, e, hu⟩ := q
  exact ⟨u, e, k _ _ hu⟩
theorem bs_dp {K : PySem.W.Frag} {H : Hp} {vs : List V} {l : List (Nat × Nat × Nat)} (q : Paired (BAt H) vs l) : DpAll K H vs (l.map b3D) := by
  induction q with
  | nil => exact .nil
  | cons r _ ih =>
    obtain ⟨u, rfl, hu⟩ := r
    exact .cons (.tup (SqT.of hu) (.cons (.int _) (.cons (.int _) (.cons (.int _) .nil)))) ih
theorem bMin {H : Hp} {us : List V} {z : Nat × Nat × Nat} {zs : List (Nat × Nat × Nat)} (q : Paired (BAt H) us (z :: zs)) {i : Nat} {x : V} (hx : us[i]? = some x) (hd : (b3D z :: zs.map b3D)[i]? = some (minD (b3D z) (zs.map b3D))) : BAt H x (minB z zs) := by
  have hil : i < (z :: zs).length := by rw [← q.length]; exact (List.getElem?_eq_some_iff.mp hx).1
  obtain ⟨v', hv', hs⟩ := Paired.get? (i := i) q (List.getElem?_eq_getElem hil)
  obtain rfl : v' = x := Option.some.inj (hv'.symm.trans hx)
  have e2 : ((z :: zs).map b3D)[i]? = some (b3D (z :: zs)[i]) := by rw [List.getElem?_map, List.getElem?_eq_getElem hil]; rfl
  rw [List.map_cons, hd, minD_b3] at e2
  rw [b3D_inj (Option.some.inj e2)]
  exact hs
end
/-! the worst case of a letter -/
def wstL (res : List NK) : Nat := (res.map fun k => res.count k).foldl max 0
theorem fmax_spec : ∀ (l : List Nat) (a : Nat), (l.foldl max a = a ∨ l.foldl max a ∈ l) ∧ a ≤ l.foldl max a ∧ ∀ y ∈ l, y ≤ l.foldl max a
  | [], a => ⟨.inl rfl, Nat.le_refl _, fun y h => by cases h⟩
  | x :: r, a => by
    obtain ⟨h1, h2, h3⟩ := fmax_spec r (max a x)
    have e : (x :: r).foldl max a = r.foldl max (max a x) := rfl
    rw [e]
    refine ⟨?_, by omega, fun y hy => ?_⟩
    · rcases h1 with z | z
      · by_cases c : a ≤ x
        · exact .inr (by rw [z, Nat.max_eq_right c]; exact List.mem_cons_self)
        · exact .inl (by rw [z, Nat.max_eq_left (by omega)])
      · exact .inr (List.mem_cons_of_mem _ z)
    · rcases List.mem_cons.mp hy with z | z
      · omega
      · exact h3 y z
theorem wst_of {rows : List NRow} {res : List NK} (c : CntOk rows res) {m : Int} (h1 : m ∈ rows.map fun r => (res.count r.1 : Int)) (h2 : ∀ y ∈ rows.map (fun r => (res.count r.1 : Int)), y ≤ m) : m = (wstL res : Nat) := by
  obtain ⟨a, b, d⟩ := fmax_spec (res.map fun k => res.count k) 0
  obtain ⟨r, hr, rfl⟩ := List.mem_map.mp h1
  have k1 : r.1 ∈ res := (c.keys _).mp (List.mem_map.mpr ⟨r, hr, rfl⟩)
  have i1 := d _ (List.mem_map.mpr ⟨r.1, k1, rfl⟩)
  have i2 : wstL res ≤ res.count r.1 := by
    rcases a with z | z
    · show List.foldl max 0 _ ≤ _
      rw [z]
      exact Nat.zero_le _
    · obtain ⟨k, hk, e⟩ := List.mem_map.mp z
      obtain ⟨r2, hr2, e2⟩ := List.mem_map.mp ((c.keys k).mpr hk)
      have := h2 _ (List.mem_map.mpr ⟨r2, hr2, rfl⟩)
      rw [e2] at this
      unfold wstL
      rw [← e]
      exact Int.ofNat_le.mp this
  have i3 : res.count r.1 ≤ wstL res := i1
  omega
theorem cnt_vals {rows : List NRow} {res : List NK} (c : CntOk rows res) : rows.map (·.2.2) = (rows.map fun r => (res.count r.1 : Int)).map V.int := by
  rw [List.map_map]
  exact List.map_congr_left fun r hr => c.cnt r hr
def wst (S : WatS) (hs dy : Nat) : Nat := wstL (resL S hs dy)
def rowB (S : WatS) (f hs n : Nat) : List (Nat × Nat × Nat) := (List.range n).map fun i => (wst S hs (f + i), hs, f + i)
def allB (S : WatS) (f n : Nat) : List (Nat × Nat × Nat) := (List.range n).flatMap fun hs => rowB S f hs S.p
theorem rowB_succ {S : WatS} {f hs n : Nat} : rowB S f hs (n + 1) = rowB S f hs n ++ [(wst S hs (f + n), hs, f + n)] := by
  unfold rowB
  rw [List.range_succ, List.map_append]
  rfl
theorem allB_succ {S : WatS} {f n : Nat} : allB S f (n + 1) = allB S f n ++ rowB S f n S.p := by
  unfold allB
  rw [List.range_succ, List.flatMap_append, List.flatMap_singleton]
theorem mem_allB {S : WatS} {f n : Nat} {z : Nat × Nat × Nat} : z ∈ allB S f n ↔ z.2.1 < n ∧ f ≤ z.2.2 ∧ z.2.2 < f + S.p ∧ z.1 = wst S z.2.1 z.2.2 := by
  unfold allB rowB
  rw [List.mem_flatMap]
  constructor
  · rintro ⟨hs, h1, h2⟩
    obtain ⟨i, hi, rfl⟩ := List.mem_map.mp h2
    have := List.mem_range.mp h1
    have := List.mem_range.mp hi
    exact ⟨by assumption, by show f ≤ f + i; omega, by show f + i < f + S.p; omega, rfl⟩
  · rintro ⟨h1, h2, h3, h4⟩
    refine ⟨z.2.1, List.mem_range.mpr h1, List.mem_map.mpr ⟨z.2.2 - f, List.mem_range.mpr (by omega), ?_⟩⟩
    have e : f + (z.2.2 - f) = z.2.2 := by omega
    rw [e]
    exact Prod.ext h4.symm rfl
theorem rowB_len {S : WatS} {f hs n : Nat} : (rowB S f hs n).length = n := by
  unfold rowB
  rw [List.length_map, List.length_range]
theorem allB_len {S : WatS} {f : Nat} : ∀ {n : Nat}, (allB S f n).length = n * S.p
  | 0 => by rw [Nat.zero_mul]; rfl
  | n + 1 => by rw [allB_succ, List.length_append, allB_len, rowB_len, Nat.succ_mul]
/-- the best letter -/
structure BestOk (S : WatS) (f hs dy : Nat) : Prop where
  hh : hs < S.h
  lo : f ≤ dy
  hi : dy < f + S.p
  best : ∀ hs' dy', hs' < S.h → f ≤ dy' → dy' < f + S.p → wst S hs dy < wst S hs' dy' ∨ (wst S hs dy = wst S hs' dy' ∧ (hs < hs' ∨ (hs = hs' ∧ dy ≤ dy')))
theorem best_of {S : WatS} {f : Nat} {z : Nat × Nat × Nat} {zs : List (Nat × Nat × Nat)} (e : allB S f S.h = z :: zs) : BestOk S f (minB z zs).2.1 (minB z zs).2.2 := by
  obtain ⟨h1, h2⟩ := minB_spec zs z
  rw [← e] at h1 h2
  obtain ⟨a, b, c, d⟩ := mem_allB.mp h1
  refine ⟨a, b, c, fun hs' dy' x y w => ?_⟩
  have h := ltB_no.mp (h2 (wst S hs' dy', hs', dy') (mem_allB.mpr ⟨x, y, w, rfl⟩))
  rw [← d]
  show (minB z zs).1 < wst S hs' dy' ∨ _
  have h' : ¬ (wst S hs' dy' < (minB z zs).1 ∨ (wst S hs' dy' = (minB z zs).1 ∧ (hs' < (minB z zs).2.1 ∨ (hs' = (minB z zs).2.1 ∧ dy' < (minB z zs).2.2)))) := h
  omega
theorem same_back {Ha Hb : Hp} {b : Addr} (e : Same Ha Hb) (z : Hb b = none) : Ha b = none := by
  cases q : Ha b with
  | none => rfl
  | some o => rw [e _ _ q] at z; cases z
def spWBest (O C : Addr) : Sp := fun vs H Q _ => ∃ (s : Addr) (S : WatS) (f : Nat), vs = [.ref s, .int f] ∧ WatAt O C H s S ∧ S.rem ≠ [] ∧ S.rem.length ≤ 100 ∧ f ≤ 1000000000000 ∧
  ∀ (H' : Hp) (r : Addr) (hs dy : Nat), Same H H' → H r = none → H' r = some (.tup [.int hs, .int dy]) → BestOk S f hs dy → Q (.ref r) H'
abbrev s_Watcher_see_all : Stmt := inClass (top 42) 2
abbrev N_Watcher_see_all : List Str := ["self", "letters", "remaining", "observed", "house", "day", "result", "candidate"]
abbrev P_Watcher_see_all : List Str := ["self", "letters"]
theorem sc_Watcher_see_all : FnScope N_Watcher_see_all P_Watcher_see_all (defScope s_Watcher_see_all) := ⟨rfl, rfl, rfl, by decide +kernel, rfl, by decide +kernel, by decide +kernel⟩
abbrev s_Watcher_see : Stmt := inClass (top 42) 1
abbrev N_Watcher_see : List Str := ["self", "house", "day", "result"]
abbrev P_Watcher_see : List Str := ["self", "house", "day", "result"]
theorem sc_Watcher_see : FnScope N_Watcher_see P_Watcher_see (defScope s_Watcher_see) := ⟨rfl, rfl, rfl, by decide +kernel, rfl, by decide +kernel, by decide +kernel⟩
/-! ### letters seen -/
section
variable {P : Program} {w : World} {K : PySem.W.Frag} {mg : Str → Option Value} {base : Heap}
/-- a def with one parameter and a star parameter -/
theorem fun_star1 {x qual p1 pv : Str} {st : Stmt} {f : Addr} {fd : FuncData} {N : List Str} {k : Nat} {sp : Sp} (F : Fun K x qual st f fd) (S : FnScope N ([p1] ++ [pv]) (defScope st))
    (h0 : ∀ (kV doc pm : Value) (an : Option Addr) (cdv ct a : Value), bindArgs (PySem.W.fnOf x qual (defArgs st) (defBody st) (defScope st) .none kV doc pm an cdv ct) ⟨[a], []⟩ = (newTuple [] >>= fun t => pure [(p1, a), (pv, t)]))
    (h1 : ∀ (kV doc pm : Value) (an : Option Addr) (cdv ct a r : Value) (rs : List Value), bindArgs (PySem.W.fnOf x qual (defArgs st) (defBody st) (defScope st) .none kV doc pm an cdv ct) ⟨a :: r :: rs, []⟩ = (newTuple (r :: rs) >>= fun t => pure [(p1, a), (pv, t)]))
    (hbody : ∀ (cdv : Value) (A : Around) (outer : List Env) (s : Shared) (H : Hp) (vs : List V) (Q : VK) (E : XK), Room k (A.deeper (PyProof.Rows.envOfC qual (defScope st) s.heap.objs.size f cdv)) → sp vs H Q E →
      ∃ t, PSs (cxOf CX0 P w K mg base N qual (defScope st) f cdv A outer s H E).nox (defBody st) t ∧ t { nx := fun _ H' => Q .non H', rt := Q } (L2.start N vs) H) :
    FnR P w K mg base CX0 (k + 1) f (fun vs H Q E => ∃ a rest, vs = a :: rest ∧ rest.length ≤ sizeLine ∧ ∀ p, H p = none → sp [a, .ref p] (upd H p (.tup rest)) Q E) := by
  obtain ⟨oc, od, kV, doc, pm, an, cdv, ct, osl, rfl, lk, hcd⟩ := F.ex
  have g := StX.fn_star (CX := CX0) (P := P) (w := w) (K := K) (mg := mg) (base := base) (k := k) (ps := [p1]) (pv := pv) (sp := sp) lk hcd S StX.cxUp_none
    (StX.bind_star1 (B := fun us => bindArgs (PySem.W.fnOf x qual (defArgs st) (defBody st) (defScope st) .none kV doc pm an cdv ct) ⟨us, []⟩) (h0 kV doc pm an cdv ct) (h1 kV doc pm an cdv ct))
    fun A outer s H vs Q E hr hsp => by
      obtain ⟨t, h, q⟩ := hbody cdv A outer s H vs Q E hr hsp
      exact ⟨t, h.nox, q⟩
  exact g.imp fun vs H Q E ⟨a, rest, e, hz, h⟩ => ⟨[a], rest, e, rfl, hz, h⟩
end
def okO (S : WatS) (b : Obs) (c : Nat × Nat) : Bool := decide (dst S.p S.h (candO S c) b.1 = b.2)
def remA (S : WatS) (obs : List Obs) : List (Nat × Nat) := S.rem.filter fun c => obs.all fun b => okO S b c
def WatS.seen (S : WatS) (obs : List Obs) (r a : Addr) : WatS := { S with r := r, rem := remA S obs, a := a, acc := S.acc ++ obs }
theorem remA_nil {S : WatS} : remA S [] = S.rem := by
  unfold remA
  rw [List.filter_eq_self]
  exact fun _ _ => rfl
theorem remA_snoc {S : WatS} {obs : List Obs} {b : Obs} : remA S (obs ++ [b]) = (remA S obs).filter (okO S b) := by
  unfold remA
  rw [List.filter_filter]
  refine List.filter_congr fun c _ => ?_
  rw [List.all_append, List.all_cons, List.all_nil, Bool.and_true, Bool.and_comm]
theorem remA_take {S : WatS} {obs : List Obs} (i : Nat) (h : remA S obs ≠ []) : remA S (obs.take i) ≠ [] := by
  obtain ⟨c, hc⟩ := List.exists_mem_of_ne_nil _ h
  obtain ⟨h1, h2⟩ := List.mem_filter.mp hc
  refine List.ne_nil_of_mem (a := c) (List.mem_filter.mpr ⟨h1, ?_⟩)
  rw [List.all_eq_true] at h2 ⊢
  exact fun b hb => h2 b (List.mem_of_mem_take hb)
theorem remA_len {S : WatS} {obs : List Obs} : (remA S obs).length ≤ S.rem.length := List.length_filter_le _ _
/-! what stands when one watcher changes -/
theorem wat_net {C O H' : Addr} {H : Hp} {x s dx a b c d : Addr} {p h : Nat} {os : List Od} {t : Addr} {F : List Addr} (N : NetAt C H x p h os t F) (hs : H s = some (.ins O dx (WtFs a b c d))) : s ∉ F := by
  obtain ⟨dn, fl, as, rfl, h1, h2, h3, h4, h5⟩ := N
  intro z
  rcases List.mem_cons.mp z with z | z
  · rw [z, h1] at hs
    have e := (HO.ins.inj (Option.some.inj hs)).2.2
    have e1 := nf_pe (p := p) (h := h) (t := t) (fl := fl)
    rw [e, wf_no (by decide +kernel) (by decide +kernel) (by decide +kernel) (by decide +kernel)] at e1
    cases e1
  rcases List.mem_cons.mp z with z | z
  · rw [z, h3] at hs
    cases hs
  · obtain ⟨j, hj⟩ := List.getElem?_of_mem z
    rw [h5 j _ hj] at hs
    cases hs
theorem But.tki {H H' : Hp} {s O dx : Addr} {fs : List (Str × V)} (b : But s H H') (hs : H s = some (.ins O dx fs)) : TupKeep H H' := fun c xs e => b c _ (ne_of e hs (by intro z; cases z)) e
theorem CandsAt.but {p h k : Nat} {os : List Od} {o : Od} {H H' : Hp} {w s O dx : Addr} {fs : List (Str × V)} {cs : List ((Nat × Nat) × Addr)} (W : CandsAt p h os k o H w cs) (b : But s H H') (hs : H s = some (.ins O dx fs)) : CandsAt p h os k o H' w cs :=
  ⟨b _ _ (ne_of W.tab hs (by intro z; cases z)) W.tab, W.ne, fun c hc => by
    obtain ⟨ks, f, a, q⟩ := W.ways c hc
    exact ⟨ks, f, ⟨b _ _ (ne_of a.tab hs (by intro z; cases z)) a.tab, a.nd, a.ok, fun q hq => (a.ways q hq).keep (b.tki hs)⟩, q⟩⟩
theorem WatAt.step {O C : Addr} {H H' : Hp} {s dx r a : Addr} {S : WatS} {rem : List (Nat × Nat)} {acc : List Obs} (A : WatAt O C H s S) (b : But s H H') (hi : H' s = some (.ins O dx (WtFs S.x S.w r a))) (hr : ∃ vs, H' r = some (.lst vs) ∧ Paired (StopAt H') vs rem) (hsub : ∀ c ∈ rem, c ∈ S.rem) (ha : ∃ vs, H' a = some (.lst vs) ∧ Paired (ObsAt H') vs acc) : WatAt O C H' s { S with r := r, rem := rem, a := a, acc := acc } := by
  obtain ⟨d0, h0⟩ := A.ins
  exact ⟨⟨dx, hi⟩, A.net.but b (b.tki h0) (wat_net (H' := s) A.net h0), A.ok, A.ord, A.ways.but b h0, A.all, hr, fun c hc => A.sub c (hsub c hc), ha⟩
theorem WatAt.other {O O' C C' : Addr} {H H' : Hp} {s s' : Addr} {S S' : WatS} (A : WatAt O C H s S) (b : But s' H H') (n : s ≠ s') (A' : WatAt O' C' H s' S') : WatAt O C H' s S := by
  obtain ⟨d0, h0⟩ := A.ins
  obtain ⟨d1, h1⟩ := A'.ins
  have tk := b.tki h1
  obtain ⟨rv, h7, h8⟩ := A.rem
  obtain ⟨av, h10, h11⟩ := A.acc
  exact ⟨⟨d0, b _ _ n h0⟩, A.net.but b tk (wat_net (H' := s) A.net h1), A.ok, A.ord, A.ways.but b h1, A.all, ⟨rv, b _ _ (ne_of h7 h1 (by intro z; cases z)) h7, Paired.mapP h8 fun _ _ z => z.keep tk⟩, A.sub, ⟨av, b _ _ (ne_of h10 h1 (by intro z; cases z)) h10, Paired.mapP h11 fun _ _ z => z.keep tk⟩⟩
theorem wt_rem {x w r a r' : Addr} : putF "remaining" (V.ref r') (WtFs x w r a) = WtFs x w r' a := by
  have h1 : ¬ ("net" : Str) = "remaining" := by decide +kernel
  have h2 : ¬ ("ways" : Str) = "remaining" := by decide +kernel
  unfold WtFs
  simp only [putF, if_neg h1, if_neg h2]
  rfl
theorem wt_acc {x w r a a' : Addr} : putF "accepted" (V.ref a') (WtFs x w r a) = WtFs x w r a' := by
  have h1 : ¬ ("net" : Str) = "accepted" := by decide +kernel
  have h2 : ¬ ("ways" : Str) = "accepted" := by decide +kernel
  have h3 : ¬ ("remaining" : Str) = "accepted" := by decide +kernel
  unfold WtFs
  simp only [putF, if_neg h1, if_neg h2, if_neg h3]
  rfl
def spWAllI (O C : Addr) : Sp := fun vs H Q _ => ∃ (s p : Addr) (S : WatS) (obs : List Obs) (us : List V), vs = [.ref s, .ref p] ∧ H p = some (.tup us) ∧ WatAt O C H s S ∧ Paired (ObsAt H) us obs ∧ (∀ b ∈ obs, b.1.1 < S.h ∧ b.1.2 ≤ 1000000000000000000 ∧ ∀ c, b.2 = some c → c.1 < S.h) ∧ remA S obs ≠ [] ∧ S.rem.length ≤ 100 ∧ S.acc.length + obs.length ≤ 500 ∧
  ∀ H' r a, But s H H' → WatAt O C H' s (S.seen obs r a) → Q (.int (remA S obs).length) H'
def spWAll (O C : Addr) : Sp := fun vs H Q _ => ∃ (s : Addr) (S : WatS) (obs : List Obs) (us : List V), vs = .ref s :: us ∧ WatAt O C H s S ∧ Paired (ObsAt H) us obs ∧ (∀ b ∈ obs, b.1.1 < S.h ∧ b.1.2 ≤ 1000000000000000000 ∧ ∀ c, b.2 = some c → c.1 < S.h) ∧ remA S obs ≠ [] ∧ S.rem.length ≤ 100 ∧ S.acc.length + obs.length ≤ 500 ∧
  ∀ H' r a, But s H H' → WatAt O C H' s (S.seen obs r a) → Q (.int (remA S obs).length) H'
section
variable {P : Program} {w : World} {K : PySem.W.Frag} {mg : Str → Option Value} {base : Heap}
theorem ok_w_all {f fR O C : Addr} {fd fdR : FuncData} (F : Fun K "see_all" "Watcher.see_all" s_Watcher_see_all f fd) (B : Blt mg) (T : WatT K O) (TN : NetT K C) (DL : Df P w K mg base "check_letter" 4 P_check_letter (spLetter C)) (DR : Df P w K mg base "check_result" 3 P_check_result (spChkRes C))
    (mR : Meth K O "result_with" fR) (GR : FnOk P w K mg base CX0 3 fR fdR P_Watcher_result_with (spWRes O C)) (bR : Binds K fdR P_Watcher_result_with []) : FnR P w K mg base CX0 5 f (spWAll O C) := by
  obtain ⟨fL, fdL, gL, kL, bL, GL⟩ := DL
  obtain ⟨fC, fdC, gC, kC, bC, GC⟩ := DR
  refine (fun_star1 F (p1 := "self") (pv := "letters") (sp := spWAllI O C) sc_Watcher_see_all (fun _ _ _ _ _ _ _ => rfl) (fun _ _ _ _ _ _ _ _ _ => rfl) (fun cdv A outer s0 H vs Q E hr h => ?_)).imp fun vs H Q E h => ?_
  · obtain ⟨s, p, S, obs, us, rfl, hp, W0, hus, hob, rne, rl, al, q⟩ := h
    have hu : (A.deeper (PyProof.Rows.envOfC "Watcher.see_all" (defScope s_Watcher_see_all) s0.heap.objs.size f cdv)).units + 64 < cLine := by
      have := hr.un
      omega
    have hr3 : Room 3 (A.deeper (PyProof.Rows.envOfC "Watcher.see_all" (defScope s_Watcher_see_all) s0.heap.objs.size f cdv)) := hr.mono (by decide)
    refine ⟨_, pss_cons (ps_set (i := 2) sc_Watcher_see_all.nd rfl (.inl rfl) (pe_fld (pv 0) rfl))
      (pss_cons (ps_set (i := 3) sc_Watcher_see_all.nd rfl (.inl rfl) (pe_lst pa_nil))
      (pss_cons (ps_for PassesOwn.never rfl (pi_tup (pv 1)) (pg_tup (by rfl) (pgs_cons (pg_name (i := 4) sc_Watcher_see_all.nd rfl (.inr rfl)) (pgs_cons (pg_name (i := 5) sc_Watcher_see_all.nd rfl (.inr rfl)) (pgs_cons (pg_name (i := 6) sc_Watcher_see_all.nd rfl (.inr rfl)) pgs_nil))))
        (pss_cons (ps_expr (pe_call GL hr (by rfl) gL kL bL .nil pass0 (pa_cons (pe_fld (pv 0) rfl) (pa_cons (pv 4) (pa_cons (pv 5) pa_nil)))))
        (pss_cons (ps_expr (pe_call GC hr3 (by rfl) gC kC bC .nil pass0 (pa_cons (pe_fld (pv 0) rfl) (pa_cons (pv 6) pa_nil))))
        (pss_cons (ps_setLc (i := 2) (own := [("candidate", 7)]) (g := gName 7) (tt := tTest (tOp (rEqD K) (tMeth O "result_with" (spWRes O C) [] E0 (tVar 0) (tCons (tVar 7) (tCons (tVar 4) (tCons (tVar 5) tNil)))) (tVar 6))) (te := tVar 7) (by rfl) sc_Watcher_see_all.nd rfl rfl (sw_true rfl rfl rfl (by decide +kernel))
          (pi_list (pv 2)) (blkOk_by (N := N_Watcher_see_all) (sc := defScope s_Watcher_see_all) (by decide +kernel)) (fun _ _ _ _ _ => pg_name (i := 7) sc_Watcher_see_all.nd rfl (.inl rfl))
          (fun _ _ _ _ _ => pts_one (pt_cmpR (op_eqD hu) (pe_meth (pv 0) T.cl mR GR hr3 bR .nil pass0 (pa_cons (pv 7) (pa_cons (pv 4) (pa_cons (pv 5) pa_nil)))) (pv 6) (nomark _))) (fun _ _ _ _ _ => pv 7))
        (pss_cons (ps_if (pt_not (pt_truth (pv 2) (fun _ => rfl))) (pss_one ps_never) pss_nil)
        (pss_one (ps_expr (pe_bm PySem.F.plainAttrs_list PySem.F.slot_list_append PySem.F.type_list_append mt_append (pv 3) (pa_cons (pe_tup (pa_cons (pv 4) (pa_cons (pv 5) (pa_cons (pv 6) pa_nil)))) pa_nil)))))))))
      (pss_cons (ps_fld (pv 0) (pv 2) rfl)
      (pss_cons (ps_fld (pv 0) (pe_op op_cat (pe_fld (pv 0) rfl) (pv 3)) rfl)
      (pss_one (ps_ret (pe_callB call_len_seq (by rfl) B.len PySem.boot_len (pa_cons (pv 2) pa_nil)))))))), ?_⟩
    obtain ⟨dx, h1⟩ := W0.ins
    obtain ⟨rv0, h7, h8⟩ := W0.rem
    obtain ⟨av0, h10, h11⟩ := W0.acc
    obtain ⟨dn, _, _, _, hn, _⟩ := id W0.net
    refine ⟨_, rfl, s, O, dx, _, _, rfl, h1, T.cl, T.nR, wf_r, ?_⟩
    refine ⟨Nat.zero_le _, fun L nL => ?_⟩
    have sL := same_upd (o := HO.lst []) nL
    refine ⟨_, rfl, p, rfl, ⟨us, SqT.of (sL _ _ hp)⟩, ?_⟩
    refine for_tup (K := K) (a := p) (xs := us) (fun i σ H' => ∃ (ri : Addr) (rv us' : List V) (y4 y5 y6 : Option V), σ = [some (.ref s), some (.ref p), some (.ref ri), some (.ref L), y4, y5, y6, none] ∧ Same H H' ∧ H' ri = some (.lst rv) ∧ Paired (StopAt H') rv (remA S (obs.take i)) ∧ ri ≠ L ∧ H' L = some (.lst us') ∧ Paired (ObsAt H') us' (obs.take i))
      ⟨S.r, rv0, [], _, _, _, rfl, sL, sL _ _ h7, by rw [List.take_zero, remA_nil]; exact Paired.mapP h8 fun _ _ z => z.keep (tk_of sL), ne_of_none h7 nL, upd_same, .nil⟩ (fun i σ H' _ ⟨_, _, _, _, _, _, _, e, _⟩ => SqT.of (e _ _ hp)) ?_ ?_
    · rintro i v σ H2 hi ⟨ri, rv, us', y4, y5, y6, rfl, s2, hri, hrv, nri, hL2, hus2⟩
      have lt : i < obs.length := by rw [← hus.length]; exact (List.getElem?_eq_some_iff.mp hi).1
      have ei := List.getElem?_eq_getElem lt
      obtain ⟨v', hv', hc⟩ := Paired.get? (i := i) hus ei
      obtain rfl : v' = v := Option.some.inj (hv'.symm.trans hi)
      have hm := hob _ (List.getElem_mem lt)
      have tk1 : obs.take (i + 1) = obs.take i ++ [obs[i]] := by rw [List.take_add_one, ei]; rfl
      have rne1 := remA_take (i + 1) rne
      rw [tk1] at rne1 ⊢
      generalize obs[i] = b at hc hm rne1
      obtain ⟨u, y, rfl, hu1, hy⟩ := hc
      obtain ⟨b1, b2, b3⟩ := hm
      have hu2 := s2 _ _ hu1
      have hy2 := OptStop.keep (tk_of s2) hy
      refine ⟨u, _, rfl, SqT.of hu2, rfl, _, _, rfl, _, _, rfl, _, _, rfl, rfl, ?_⟩
      refine ⟨_, rfl, s, O, dx, _, _, rfl, s2 _ _ h1, T.cl, T.nN, wf_n, _, rfl, _, rfl, S.x, S.t, S.p, S.h, b.1.1, b.1.2, S.os, S.F, rfl, W0.net.same s2, b1, b2, ?_⟩
      refine ⟨_, rfl, s, O, dx, _, _, rfl, s2 _ _ h1, T.cl, T.nN, wf_n, _, rfl, S.x, S.t, S.p, S.h, S.os, S.F, y, b.2, rfl, W0.net.same s2, W0.ok.h1, hy2, b3, ?_⟩
      refine ⟨_, rfl, ri, rfl, ⟨_, SqL.of hri⟩, fun D nD => ?_⟩
      have nDri : ri ≠ D := ne_of_none hri nD
      have nDL : L ≠ D := ne_of_none hL2 nD
      have sD := same_upd (o := HO.lst []) nD
      refine lc_list (K := K) (a := ri) (xs := rv) (fun j H' => ∃ acc, Same H2 H' ∧ H' D = some (.lst acc) ∧ Paired (StopAt H') acc (((remA S (obs.take i)).take j).filter (okO S b)))
        ⟨[], sD, upd_same, .nil⟩ (fun j H' _ ⟨_, e, _⟩ => SqL.of (e _ _ hri)) ?_ ?_
      · rintro j x H3 hj ⟨acc, s3, hD3, hacc⟩
        have ltj : j < (remA S (obs.take i)).length := by rw [← hrv.length]; exact (List.getElem?_eq_some_iff.mp hj).1
        have ej := List.getElem?_eq_getElem ltj
        obtain ⟨x', hx', hxc⟩ := Paired.get? (i := j) hrv ej
        obtain rfl : x' = x := Option.some.inj (hx'.symm.trans hj)
        have hmem : (remA S (obs.take i))[j] ∈ S.rem := (List.mem_filter.mp (List.getElem_mem ltj)).1
        have e1 : ((remA S (obs.take i)).take (j + 1)).filter (okO S b) = ((remA S (obs.take i)).take j).filter (okO S b) ++ [(remA S (obs.take i))[j]].filter (okO S b) := by
          rw [List.take_add_one, ej, List.filter_append]
          rfl
        rw [e1]
        have la : acc.length ≤ 100 := by
          rw [hacc.length]
          have q1 := List.length_filter_le (okO S b) ((remA S (obs.take i)).take j)
          have q2 := List.length_take_le j (remA S (obs.take i))
          have q3 := remA_len (S := S) (obs := obs.take i)
          omega
        generalize (remA S (obs.take i))[j] = c at hxc hmem
        refine ⟨rfl, _, rfl, s, dx, _, rfl, s3 _ _ (s2 _ _ h1), wf_no (by decide +kernel) (by decide +kernel) (by decide +kernel) (by decide +kernel), _, rfl, _, rfl, _, rfl, s, S, x', c, b.1.1, b.1.2, rfl, (W0.same s2).same s3, hxc.keep (tk_of s3), W0.sub _ hmem, b1, fun H4 y4' s4 hy4 => ?_⟩
        refine ⟨_, rfl, _, _, opt_dp hy4, opt_dp (OptStop.keep (tk_of (s3.trans s4)) hy2), optD_shaped _, optD_shaped _, _, rfl, ?_⟩
        rw [optD_eqv]
        refine ite2 (fun t => ?_) (fun t => ?_)
        · have e2 : okO S b c = true := t
          rw [List.filter_cons_of_pos e2, List.filter_nil]
          have hD4 := s4 _ _ hD3
          have k6 : TupKeep H3 _ := (tk_of s4).trans (TupKeep.lst (o := HO.lst (acc ++ [x'])) hD4)
          have k7 : TupKeep H2 _ := (tk_of s3).trans k6
          refine ⟨_, rfl, acc, hD4, Nat.lt_of_le_of_lt la (small1000 (by omega)), acc ++ [x'], fun q o e => ?_, upd_same, Paired.snoc (Paired.mapP hacc fun _ _ z => z.keep k6) (hxc.keep k7)⟩
          rw [upd_ne (ne_of_none e nD)]
          exact s4 _ _ (s3 _ _ e)
        · have e2 : ¬ okO S b c = true := t
          rw [List.filter_cons_of_neg e2, List.filter_nil, List.append_nil]
          exact ⟨acc, s3.trans s4, s4 _ _ hD3, Paired.mapP hacc fun _ _ z => z.keep (tk_of s4)⟩
      · rintro H3 ⟨acc, s3, hD3, hacc⟩
        rw [hrv.length, List.take_of_length_le (Nat.le_refl _), ← remA_snoc] at hacc
        have ane : acc.isEmpty = false := by
          cases acc with
          | nil =>
            cases e : remA S (obs.take i ++ [b]) with
            | nil => exact absurd e rne1
            | cons c r =>
              rw [e] at hacc
              cases hacc
          | cons => rfl
        refine ⟨_, rfl, true, .inl ⟨acc, SqL.of hD3, by rw [ane]; rfl⟩, iteF ?_⟩
        have hL3 := s3 _ _ hL2
        refine ⟨_, rfl, .inl ⟨rfl, _, SqL.of hL3⟩, _, rfl, _, rfl, _, rfl, (by show 3 ≤ sizeLine; decide), fun u' nu' => ?_⟩
        have su := same_upd (o := HO.tup [.int (b.1.1 : Nat), .int (b.1.2 : Nat), y]) nu'
        have nuL : u' ≠ L := (ne_of_none hL3 nu').symm
        have k6 : TupKeep H3 _ := (tk_of su).trans (TupKeep.lst (o := HO.lst (us' ++ [.ref u'])) (su _ _ hL3))
        have k7 : TupKeep H2 _ := (tk_of s3).trans k6
        refine ⟨L, _, _, rfl, rfl, su _ _ hL3, ?_, D, acc, _, _, _, _, rfl, fun q o e => ?_, ?_, Paired.mapP hacc fun _ _ z => z.keep k6, nDL.symm, upd_same, ?_⟩
        · rw [hus2.length, List.length_take]
          exact small1000 (by omega)
        · rw [upd_ne (ne_of_none e nL)]
          exact su _ _ (s3 _ _ (s2 _ _ e))
        · exact (upd_ne nDL.symm).trans (su _ _ hD3)
        · exact Paired.snoc (Paired.mapP hus2 fun _ _ z => z.keep k7) ⟨u', y, rfl, (upd_ne nuL).trans upd_same, OptStop.keep k7 hy2⟩
    · rintro σ H2 ⟨ri, rv, us', y4, y5, y6, rfl, s2, hri, hrv, nri, hL2, hus2⟩
      rw [hus.length, List.take_of_length_le (Nat.le_refl _)] at hrv hus2
      have hs2 := s2 _ _ h1
      have W2 := W0.same s2
      have nrs : ri ≠ s := ne_of hri hs2 (by intro z; cases z)
      have nLs : L ≠ s := ne_of hL2 hs2 (by intro z; cases z)
      have nas : S.a ≠ s := ne_of h10 h1 (by intro z; cases z)
      refine ⟨_, rfl, _, rfl, s, O, dx, _, rfl, hs2, T.cl, T.nR, (by show 4 < 1000; decide), ?_⟩
      rw [wt_rem]
      have hs3 : (upd H2 s (.ins O dx (WtFs S.x S.w ri S.a))) s = some (.ins O dx (WtFs S.x S.w ri S.a)) := upd_same
      have ha3 : (upd H2 s (.ins O dx (WtFs S.x S.w ri S.a))) S.a = some (.lst av0) := (upd_ne nas).trans (s2 _ _ h10)
      have hL3 : (upd H2 s (.ins O dx (WtFs S.x S.w ri S.a))) L = some (.lst us') := (upd_ne nLs).trans hL2
      have hr3 : (upd H2 s (.ins O dx (WtFs S.x S.w ri S.a))) ri = some (.lst rv) := (upd_ne nrs).trans hri
      have b3 : But s H2 (upd H2 s (.ins O dx (WtFs S.x S.w ri S.a))) := .upd
      generalize upd H2 s (.ins O dx (WtFs S.x S.w ri S.a)) = H3 at hs3 ha3 hL3 hr3 b3
      have sl : av0.length + us'.length ≤ sizeLine := by
        rw [h11.length, hus2.length]
        exact Nat.le_of_lt (small1000 (by omega))
      refine ⟨_, rfl, s, O, dx, _, _, rfl, hs3, T.cl, T.nA, wf_a, _, rfl, S.a, L, av0, us', rfl, rfl, ha3, hL3, sl, fun a na => ?_⟩
      have sa := same_upd (o := HO.lst (av0 ++ us')) na
      refine ⟨_, rfl, s, O, dx, _, rfl, sa _ _ hs3, T.cl, T.nA, (by show 4 < 1000; decide), ?_⟩
      rw [wt_acc]
      have n3 : a ≠ s := (ne_of_none hs3 na).symm
      have b5 : But s H (upd (upd H3 a (.lst (av0 ++ us'))) s (.ins O dx (WtFs S.x S.w ri a))) := (((But.of s2).trans b3).trans (.of sa)).trans .upd
      have tk := b5.tki h1
      have b6 : But s H2 (upd (upd H3 a (.lst (av0 ++ us'))) s (.ins O dx (WtFs S.x S.w ri a))) := (b3.trans (.of sa)).trans .upd
      have tk6 := b6.tki hs2
      have hr5 : (upd (upd H3 a (.lst (av0 ++ us'))) s (.ins O dx (WtFs S.x S.w ri a))) ri = some (.lst rv) := (upd_ne nrs).trans (sa _ _ hr3)
      have W5 : WatAt O C _ s (S.seen obs ri a) := W0.step b5 upd_same ⟨rv, hr5, Paired.mapP hrv fun _ _ z => z.keep tk6⟩ (fun c hc => (List.mem_filter.mp hc).1) ⟨av0 ++ us', (upd_ne n3).trans upd_same, Paired.app (Paired.mapP h11 fun _ _ z => z.keep tk) (Paired.mapP hus2 fun _ _ z => z.keep tk6)⟩
      have qq := q _ ri a b5 W5
      rw [← hrv.length] at qq
      exact ⟨_, rfl, ri, rv, rfl, .inl (SqL.of hr5), qq⟩
  · obtain ⟨s, S, obs, us, rfl, W0, hus, hob, rne, rl, al, q⟩ := h
    have ul : us.length ≤ sizeLine := by
      rw [hus.length]
      exact Nat.le_of_lt (small1000 (by omega))
    refine ⟨_, us, rfl, ul, fun p np => ?_⟩
    have sp := same_upd (o := HO.tup us) np
    exact ⟨s, p, S, obs, us, rfl, upd_same, W0.same sp, Paired.mapP hus fun _ _ z => z.keep (tk_of sp), hob, rne, rl, al, fun H' r a b => q H' r a ((But.of sp).trans b)⟩
def spWSee (O C : Addr) : Sp := fun vs H Q _ => ∃ (s : Addr) (S : WatS) (hs dy : Nat) (y : V) (r : Option (Nat × Nat)), vs = [.ref s, .int hs, .int dy, y] ∧ WatAt O C H s S ∧ OptStop H y r ∧ hs < S.h ∧ dy ≤ 1000000000000000000 ∧ (∀ c, r = some c → c.1 < S.h) ∧ remA S [((hs, dy), r)] ≠ [] ∧ S.rem.length ≤ 100 ∧ S.acc.length < 500 ∧
  ∀ H' r' a, But s H H' → WatAt O C H' s (S.seen [((hs, dy), r)] r' a) → Q (.int (remA S [((hs, dy), r)]).length) H'
theorem ok_w_see {f fA O C : Addr} {fd : FuncData} (F : Fun K "see" "Watcher.see" s_Watcher_see f fd) (T : WatT K O) (mA : Meth K O "see_all" fA) (GA : FnR P w K mg base CX0 5 fA (spWAll O C)) : FnOk P w K mg base CX0 6 f fd P_Watcher_see (spWSee O C) := by
  refine F.ok sc_Watcher_see (fun vs H Q E h => ?_) (fun cdv A outer s0 H vs Q E hr h => ?_)
  · obtain ⟨s, S, hs, dy, y, r, rfl, _⟩ := h
    rfl
  · obtain ⟨s, S, hs, dy, y, r, rfl, W0, hy, hh, hd, hc, rne, rl, al, q⟩ := h
    refine ⟨_, pss_one (ps_ret (pe_methR (pv 0) T.cl mA GA hr pass0 (pa_cons (pe_tup (pa_cons (pv 1) (pa_cons (pv 2) (pa_cons (pv 3) pa_nil)))) pa_nil))), ?_⟩
    obtain ⟨dx, h1⟩ := W0.ins
    refine ⟨_, rfl, s, dx, _, rfl, h1, wf_no (by decide +kernel) (by decide +kernel) (by decide +kernel) (by decide +kernel), _, rfl, _, rfl, _, rfl, (by show 3 ≤ sizeLine; decide), fun u nu => ?_⟩
    have su := same_upd (o := HO.tup [.int (hs : Nat), .int (dy : Nat), y]) nu
    refine ⟨s, S, [((hs, dy), r)], [.ref u], rfl, W0.same su, .cons ⟨u, y, rfl, upd_same, OptStop.keep (tk_of su) hy⟩ .nil, fun b hb => ?_, rne, rl, by show _ + 1 ≤ 500; omega, fun H' r' a b => q H' r' a ((But.of su).trans b)⟩
    rw [List.mem_singleton.mp hb]
    exact ⟨hh, hd, hc⟩
end
abbrev s_l_candidates : Stmt := top 50
abbrev N_l_candidates : List Str := ["_law_parts", "_law_index_here", "_law_source", "_law_target", "_law_first", "_law_days", "_law_delay", "_law_nets", "_law_house", "_law_wait", "_law_order_here"]
abbrev P_l_candidates : List Str := ["_law_parts", "_law_index_here"]
theorem sc_l_candidates : FnScope N_l_candidates P_l_candidates (defScope s_l_candidates) := ⟨rfl, rfl, rfl, by decide +kernel, rfl, by decide +kernel, by decide +kernel⟩
/-! ### the law's helper: all nets that a hidden order can make -/
structure LCands (p h : Nat) (os : List Od) (k : Nat) (o : Od) (H : Hp) (w : Addr) (cs : List ((Nat × Nat) × Addr)) : Prop where
  tab : H w = some (.dT (cs.map fun c => (keyC c.1, V.ref c.2)))
  parts : ∀ c ∈ cs, PartsAt H c.2 p h (setO os k o c.1)
theorem LCands.same {p h k : Nat} {os : List Od} {o : Od} {H H' : Hp} {w : Addr} {cs : List ((Nat × Nat) × Addr)} (W : LCands p h os k o H w cs) (s : Same H H') : LCands p h os k o H' w cs :=
  ⟨s _ _ W.tab, fun c hc => (W.parts c hc).keep (tk_of s)⟩
theorem LCands.put {p h k : Nat} {os : List Od} {o : Od} {H : Hp} {w d : Addr} {cs : List ((Nat × Nat) × Addr)} {c : Nat × Nat} (W : LCands p h os k o H w cs) (hn : ∀ x ∈ cs, x.1 ≠ c) (hd : PartsAt H d p h (setO os k o c)) :
    LCands p h os k o (upd H w (.dT (putK (cs.map fun c => (keyC c.1, V.ref c.2)) (keyC c) (.ref d)))) w (cs ++ [(c, d)]) := by
  have tk : TupKeep H (upd H w (.dT (putK (cs.map fun c => (keyC c.1, V.ref c.2)) (keyC c) (.ref d)))) := fun b xs e => (upd_ne (ne_of e W.tab (by intro z; cases z))).trans e
  refine ⟨?_, fun x hx => ?_⟩
  · rw [upd_same, Cp.putK_new (valC_none hn), List.map_append]
    rfl
  · rcases List.mem_append.mp hx with z | z
    · exact (W.parts x z).keep tk
    · rw [List.mem_singleton.mp z]
      exact hd.keep tk
def spLCands : Sp := fun vs H Q _ => ∃ (a : Addr) (p h k : Nat) (os : List Od) (o : Od), vs = [.ref a, .int k] ∧ PartsAt H a p h os ∧ NetOk p h os ∧ os[k]? = some o ∧
  ∀ H' w cs, Same H H' → H w = none → LCands p h os k o H' w cs → cs.map (·.1) = candsL h o.s → Q (.ref w) H'
section
variable {P : Program} {w : World} {K : PySem.W.Frag} {mg : Str → Option Value} {base : Heap}
set_option maxHeartbeats 1000000 in
theorem ok_lcands {f : Addr} {fd : FuncData} (F : Fun K "_law_candidates" "_law_candidates" s_l_candidates f fd) (B : Blt mg) : FnOk P w K mg base CX0 1 f fd P_l_candidates spLCands := by
  refine F.ok sc_l_candidates (fun vs H Q E h => ?_) (fun cdv A outer s H vs Q E hr h => ?_)
  · obtain ⟨a, p, h, k, os, o, rfl, _⟩ := h
    rfl
  · obtain ⟨a, p, h, k, os, o, rfl, hP, ok, ho, q⟩ := h
    have hu : (A.deeper (PyProof.Rows.envOfC "_law_candidates" (defScope s_l_candidates) s.heap.objs.size f cdv)).units + 1 < cLine := hu_of hr
    refine ⟨_, pss_cons (ps_asg (pe_ix ix_tup (pe_ix ix_tup (pv 0) pe_int (fun _ _ => rfl)) (pv 1) (fun _ _ => rfl)) (pg_tup (by rfl) (pgs_cons (pg_name (i := 2) sc_l_candidates.nd rfl (.inl rfl)) (pgs_cons (pg_name (i := 3) sc_l_candidates.nd rfl (.inl rfl)) (pgs_cons (pg_name (i := 4) sc_l_candidates.nd rfl (.inl rfl)) (pgs_cons (pg_name (i := 5) sc_l_candidates.nd rfl (.inl rfl)) (pgs_cons (pg_name (i := 6) sc_l_candidates.nd rfl (.inl rfl)) pgs_nil)))))))
      (pss_cons (ps_set (i := 7) sc_l_candidates.nd rfl (.inl rfl) pe_dnewT)
      (pss_cons (ps_for PassesOwn.never rfl (pi_range1 rfl B.range (pa_cons (pe_ix ix_tup (pv 0) pe_int (fun _ _ => rfl)) pa_nil)) (pg_name (i := 8) sc_l_candidates.nd rfl (.inl rfl))
        (pss_one (ps_for PassesOwn.never rfl (pi_range2 rfl B.range (pa_cons pe_int (pa_cons pe_int pa_nil))) (pg_name (i := 9) sc_l_candidates.nd rfl (.inl rfl))
          (pss_one (ps_if (pt_cmpR op_ne (pv 8) (pv 2) (nomark _))
            (pss_cons (ps_set (i := 10) sc_l_candidates.nd rfl (.inl rfl) (pe_tup (pa_cons (pv 2) (pa_cons (pv 8) (pa_cons (pv 4) (pa_cons (pv 5) (pa_cons (pv 9) pa_nil)))))))
            (pss_one (ps_dput hu (pv 7) (pe_tup (pa_cons (pv 8) (pa_cons (pv 9) pa_nil)))
              (pe_tup (pa_cons (pe_ix ix_tup (pv 0) pe_int (fun _ _ => rfl)) (pa_cons (pe_ix ix_tup (pv 0) pe_int (fun _ _ => rfl)) (pa_cons
                (pe_op op_catA (pe_op op_catA (pe_slice sl_tupA (pe_ix ix_tup (pv 0) pe_int (fun _ _ => rfl)) po_none (po_some (pv 1))) (pe_tup (pa_cons (pv 10) pa_nil))) (pe_slice sl_tupA (pe_ix ix_tup (pv 0) pe_int (fun _ _ => rfl)) (po_some (pe_op op_add (pv 1) pe_int)) po_none)) pa_nil)))) (by rfl)))) pss_nil)))))
      (pss_one (ps_ret (pv 7))))), ?_⟩
    obtain ⟨t, ha, ts, ht, hOs⟩ := hP
    have p30 := ok.p30; have h10 := ok.h10; have ol := ok.len
    have ltk : k < os.length := (List.getElem?_eq_some_iff.mp ho).1
    obtain ⟨v, hv, u, rfl, hu0⟩ := Paired.get? (i := k) hOs ho
    have tl := hOs.length
    refine ⟨_, rfl, a, _, 2, _, rfl, rfl, SqT.of ha, atI_nat (j := 2) rfl, _, rfl, t, _, (k : Nat), _, rfl, rfl, SqT.of ht, atI_nat hv, ?_⟩
    refine ⟨u, _, rfl, SqT.of hu0, rfl, _, _, rfl, _, _, rfl, _, _, rfl, _, _, rfl, _, _, rfl, rfl, ?_⟩
    refine fun W nW => ?_
    have sW := same_upd (o := HO.dT []) nW
    refine ⟨_, rfl, a, _, 1, _, rfl, rfl, SqT.of (sW _ _ ha), atI_nat (j := 1) rfl, (h : Int), rfl, by omega, by omega, ?_⟩
    refine for_range (lo := 0) (n := (h : Int).toNat) (fun i σ H' => ∃ (y8 y9 y10 : Option V) (cs : List ((Nat × Nat) × Addr)), σ = [some (.ref a), some (.int k), some (.int o.s), some (.int o.t), some (.int o.f), some (.int o.n), some (.int o.e), some (.ref W), y8, y9, y10] ∧ Same H H' ∧ LCands p h os k o H' W cs ∧ cs.map (·.1) = candsL i o.s)
      ⟨_, _, _, [], rfl, sW, ⟨upd_same, fun c hc => by cases hc⟩, rfl⟩ ?_ ?_
    · rintro i σ H1 hi ⟨y8, y9, y10, cs, rfl, s1, C1, e1⟩
      rw [show (0 : Int) + (i : Int) = (i : Nat) from Int.zero_add _]
      have hih : i < h := by omega
      refine ⟨1, 10, rfl, ⟨by decide, by decide, by decide, by decide⟩, ?_⟩
      refine for_range (lo := 1) (n := ((10 : Int) - 1).toNat) (fun j σ H' => ∃ (y9 y10 : Option V) (cs : List ((Nat × Nat) × Addr)), σ = [some (.ref a), some (.int k), some (.int o.s), some (.int o.t), some (.int o.f), some (.int o.n), some (.int o.e), some (.ref W), some (.int (i : Nat)), y9, y10] ∧ Same H H' ∧ LCands p h os k o H' W cs ∧ cs.map (·.1) = candsL i o.s ++ rowC o.s i j)
        ⟨_, _, cs, rfl, s1, C1, by rw [e1]; unfold rowC; split <;> exact (List.append_nil _).symm⟩ ?_ ?_
      · rintro j σ H2 hj ⟨y9, y10, cs, rfl, s2, C2, e2⟩
        have hj9 : j < 9 := hj
        rw [show (1 : Int) + (j : Int) = ((j + 1 : Nat) : Int) by omega]
        refine ⟨_, rfl, _, rfl, rfl, _, rfl, ?_⟩
        by_cases c : i = o.s
        · have e : (!decide (V.int (i : Nat) = V.int (o.s : Nat))) = false := by rw [c]; simp
          rw [e]
          refine iteF ⟨_, _, cs, rfl, s2, C2, ?_⟩
          rw [e2]
          unfold rowC
          rw [if_pos c, if_pos c]
        · have e : (!decide (V.int (i : Nat) = V.int (o.s : Nat))) = true := by
            rw [decide_eq_false (fun z => c (by have := V.int.inj z; omega))]
            rfl
          rw [e]
          refine iteT ?_
          refine ⟨_, rfl, _, rfl, _, rfl, _, rfl, _, rfl, (by show 5 ≤ sizeLine; decide), fun u1 nu1 => ?_⟩
          have su := same_upd (o := HO.tup [.int o.s, .int (i : Nat), .int o.f, .int o.n, .int (j + 1 : Nat)]) nu1
          have hu1 : (upd H2 u1 (.tup [.int o.s, .int (i : Nat), .int o.f, .int o.n, .int (j + 1 : Nat)])) u1 = some (.tup [.int o.s, .int (i : Nat), .int o.f, .int o.n, .int (j + 1 : Nat)]) := upd_same
          have sA := s2.trans su
          have C3 := C2.same su
          generalize upd H2 u1 (.tup [.int o.s, .int (i : Nat), .int o.f, .int o.n, .int (j + 1 : Nat)]) = H3 at hu1 sA C3
          have ha3 := sA _ _ ha
          have ht3 := sA _ _ ht
          refine ⟨_, rfl, a, _, 0, _, rfl, rfl, SqT.of ha3, atI_nat (j := 0) rfl, _, rfl, a, _, 1, _, rfl, rfl, SqT.of ha3, atI_nat (j := 1) rfl, ?_⟩
          refine ⟨_, rfl, a, _, 2, _, rfl, rfl, SqT.of ha3, atI_nat (j := 2) rfl, _, rfl, (k : Nat), rfl, ?_⟩
          refine slA_case ht3 fun b H4 s4 hb => ?_
          rw [cut_to] at hb
          refine ⟨_, rfl, (by show 1 ≤ sizeLine; decide), fun w1 nw1 => ?_⟩
          have sw := same_upd (o := HO.tup [V.ref u1]) nw1
          refine catA_case (sw _ _ hb) upd_same (by rw [List.length_take]; exact Nat.le_of_lt (small1000 (by show _ + 1 ≤ _; omega))) fun c1 H5 s5 hc1 => ?_
          have s35 := (s4.trans sw).trans s5
          refine ⟨_, rfl, a, _, 2, _, rfl, rfl, SqT.of (s35 _ _ ha3), atI_nat (j := 2) rfl, _, rfl, _, _, rfl, rfl, (k : Int) + 1, rfl, ?_⟩
          unfold tNoPart
          refine slA_case (lo := some ((k : Int) + 1)) (hi := none) (s35 _ _ ht3) fun b2 H6 s6 hb2 => ?_
          rw [show ((k : Int) + 1) = ((k + 1 : Nat) : Int) from rfl, cut_from] at hb2
          refine catA_case (s6 _ _ hc1) hb2 (by rw [List.length_append, List.length_take, List.length_drop]; exact Nat.le_of_lt (small1000 (by show _ + 1 + _ ≤ _; omega))) fun c2 H7 s7 hc2 => ?_
          have s37 := s35.trans (s6.trans s7)
          have hO7 : OrdsTup H7 c2 (setO os k o (i, j + 1)) := ⟨_, hc2, Paired.app (Paired.app (Paired.take (Paired.mapP hOs fun _ _ z => z.keep (tk_of (sA.trans s37))) k) (.cons ⟨u1, rfl, s37 _ _ hu1⟩ .nil)) (Paired.dropN (k + 1) (Paired.mapP hOs fun _ _ z => z.keep (tk_of (sA.trans s37))))⟩
          refine ⟨(by show 3 ≤ sizeLine; decide), fun d nd => ?_⟩
          have sd := same_upd (o := HO.tup [.int p, .int h, .ref c2]) nd
          have hP8 : PartsAt (upd H7 d (.tup [.int p, .int h, .ref c2])) d p h (setO os k o (i, j + 1)) := ⟨c2, upd_same, hO7.keep (tk_of sd)⟩
          have C5 := (C3.same s37).same sd
          have s8 := (sA.trans s37).trans sd
          generalize upd H7 d (.tup [.int p, .int h, .ref c2]) = H8 at hP8 C5 s8
          refine ⟨_, rfl, _, rfl, _, rfl, (by show 2 ≤ sizeLine; decide), fun u2 nu2 => ?_⟩
          have su2 := same_upd (o := HO.tup [.int (i : Nat), .int (j + 1 : Nat)]) nu2
          have C6 := C5.same su2
          have hln : cs.length ≤ 100 := by
            have h1 : (cs.map (·.1)).length ≤ 100 := by
              rw [e2, List.length_append]
              have h2 := candsL_len (n := i) (s := o.s)
              have h3 : (rowC o.s i j).length ≤ 9 := by
                unfold rowC
                rw [if_neg c, List.length_map, List.length_range]
                omega
              omega
            rw [List.length_map] at h1
            exact h1
          refine ⟨W, _, rfl, DPut.t (k := keyC (i, j + 1)) C6.tab upd_same (by rw [List.length_map]; exact small1000 (by omega)), ?_⟩
          have hn : ∀ y ∈ cs, y.1 ≠ (i, j + 1) := fun y hy z => by
            have hm : y.1 ∈ cs.map (·.1) := List.mem_map.mpr ⟨y, hy, rfl⟩
            rw [e2, z] at hm
            rcases List.mem_append.mp hm with w1 | w1
            · exact absurd (candsL_mem w1) (Nat.lt_irrefl _)
            · have : j + 1 ≤ j := (rowC_mem w1).2
              omega
          refine ⟨_, _, cs ++ [((i, j + 1), d)], rfl, fun b o1 e3 => ?_, C6.put hn (hP8.keep (tk_of su2)), ?_⟩
          · rw [upd_ne (ne_of_none e3 nW)]
            exact su2 _ _ (s8 _ _ e3)
          · rw [List.map_append, e2, rowC_succ c, List.append_assoc]
            rfl
      · rintro σ H2 ⟨y9, y10, cs, rfl, s2, C2, e2⟩
        refine ⟨_, _, _, cs, rfl, s2, C2, ?_⟩
        rw [e2]
        unfold candsL
        rw [List.range_succ, List.flatMap_append, List.flatMap_singleton]
        rfl
    · rintro σ H1 ⟨y8, y9, y10, cs, rfl, s1, C1, e1⟩
      exact ⟨_, rfl, q H1 W cs s1 nW C1 e1⟩
end
/-! ### raising the errors of the package -/
/-- the class x at D: what its raising asks -/
structure ErrR (K : PySem.W.Frag) (mg : Str → Option Value) (x : Str) (D : Addr) : Prop where
  g : mg x = some (.ref D)
  x : PySem.W.excIn K D [.type "ValueError", .type "Exception", .type "BaseException", .type "object"] "ValueError.__new__" = true
  k : PySem.W.keepIn K (.ref D) = true
  b : PySem.W.subIn K (.ref D) (.type "BaseException") = some true
  t : PySem.W.typeIn K (.ref D) = some (.type "type")
theorem pmk_err {X : Cx} {x m : Str} {j : Nat} {p p2 pos : Pos} {D : Addr} (E : ErrR X.K X.mg x D) (hg : Gl X x) (hdb : (x == ("__debug__" : Str)) = false := by decide) : PMk X (.Call (.Name x p) [.Constant (.str m) j p2] [] pos) (fun _ H Q => Q (.ref D) none H) :=
  pmk_own PySem.F.excBase_ValueError E.x E.g E.k (raises_own E.b E.t) hg hdb
abbrev takesX {X : Cx} := @takes_of X
section
variable {P : Program} {w : World} {K : PySem.W.Frag} {mg : Str → Option Value} {base : Heap}
/-- a def with one parameter and a star parameter, that may raise -/
theorem fun_star1X {x qual p1 pv : Str} {st : Stmt} {f : Addr} {fd : FuncData} {N : List Str} {k : Nat} {sp : Sp} (F : Fun K x qual st f fd) (S : FnScope N ([p1] ++ [pv]) (defScope st))
    (h0 : ∀ (kV doc pm : Value) (an : Option Addr) (cdv ct a : Value), bindArgs (PySem.W.fnOf x qual (defArgs st) (defBody st) (defScope st) .none kV doc pm an cdv ct) ⟨[a], []⟩ = (newTuple [] >>= fun t => pure [(p1, a), (pv, t)]))
    (h1 : ∀ (kV doc pm : Value) (an : Option Addr) (cdv ct a r : Value) (rs : List Value), bindArgs (PySem.W.fnOf x qual (defArgs st) (defBody st) (defScope st) .none kV doc pm an cdv ct) ⟨a :: r :: rs, []⟩ = (newTuple (r :: rs) >>= fun t => pure [(p1, a), (pv, t)]))
    (hbody : ∀ (cdv : Value) (A : Around) (outer : List Env) (s : Shared) (H : Hp) (vs : List V) (Q : VK) (E : XK), Room k (A.deeper (PyProof.Rows.envOfC qual (defScope st) s.heap.objs.size f cdv)) → sp vs H Q E →
      ∃ t, PSs (cxOf (L2.CX P w) P w K mg base N qual (defScope st) f cdv A outer s H E) (defBody st) t ∧ t { nx := fun _ H' => Q .non H', rt := Q } (L2.start N vs) H) :
    FnR P w K mg base (L2.CX P w) (k + 1) f (fun vs H Q E => ∃ a rest, vs = a :: rest ∧ rest.length ≤ sizeLine ∧ ∀ p, H p = none → sp [a, .ref p] (upd H p (.tup rest)) Q E) := by
  obtain ⟨oc, od, kV, doc, pm, an, cdv, ct, osl, rfl, lk, hcd⟩ := F.ex
  have g := StX.fn_star (CX := L2.CX P w) (P := P) (w := w) (K := K) (mg := mg) (base := base) (k := k) (ps := [p1]) (pv := pv) (sp := sp) lk hcd S StX.cxUp
    (StX.bind_star1 (B := fun us => bindArgs (PySem.W.fnOf x qual (defArgs st) (defBody st) (defScope st) .none kV doc pm an cdv ct) ⟨us, []⟩) (h0 kV doc pm an cdv ct) (h1 kV doc pm an cdv ct))
    fun A outer s H vs Q E hr hsp => hbody cdv A outer s H vs Q E hr hsp
  exact g.imp fun vs H Q E ⟨a, rest, e, hz, h⟩ => ⟨[a], rest, e, rfl, hz, h⟩
end
/-! ### a letter that contradicts what was seen -/
def spWAllXI (O C D : Addr) : Sp := fun vs H _ E => ∃ (s p : Addr) (S : WatS) (pre : List Obs) (b0 : Obs) (rest : List Obs) (us : List V), vs = [.ref s, .ref p] ∧ H p = some (.tup us) ∧ WatAt O C H s S ∧ Paired (ObsAt H) us (pre ++ b0 :: rest) ∧ (∀ b ∈ pre ++ b0 :: rest, b.1.1 < S.h ∧ b.1.2 ≤ 1000000000000000000 ∧ ∀ c, b.2 = some c → c.1 < S.h) ∧ remA S pre ≠ [] ∧ remA S (pre ++ [b0]) = [] ∧ S.rem.length ≤ 100 ∧ us.length ≤ 500 ∧
  ∀ H', Same H H' → E (.ref D) none H'
def spWAllX (O C D : Addr) : Sp := fun vs H _ E => ∃ (s : Addr) (S : WatS) (pre : List Obs) (b0 : Obs) (rest : List Obs) (us : List V), vs = .ref s :: us ∧ WatAt O C H s S ∧ Paired (ObsAt H) us (pre ++ b0 :: rest) ∧ (∀ b ∈ pre ++ b0 :: rest, b.1.1 < S.h ∧ b.1.2 ≤ 1000000000000000000 ∧ ∀ c, b.2 = some c → c.1 < S.h) ∧ remA S pre ≠ [] ∧ remA S (pre ++ [b0]) = [] ∧ S.rem.length ≤ 100 ∧ us.length ≤ 500 ∧
  ∀ H', Same H H' → E (.ref D) none H'
section
variable {P : Program} {w : World} {K : PySem.W.Frag} {mg : Str → Option Value} {base : Heap}
theorem ok_w_allX {f fR O C D : Addr} {fd fdR : FuncData} (F : Fun K "see_all" "Watcher.see_all" s_Watcher_see_all f fd) (B : Blt mg) (T : WatT K O) (TN : NetT K C) (ER : ErrR K mg "Contradiction" D) (DL : Df P w K mg base "check_letter" 4 P_check_letter (spLetter C)) (DR : Df P w K mg base "check_result" 3 P_check_result (spChkRes C))
    (mR : Meth K O "result_with" fR) (GR : FnOk P w K mg base CX0 3 fR fdR P_Watcher_result_with (spWRes O C)) (bR : Binds K fdR P_Watcher_result_with []) : FnR P w K mg base (L2.CX P w) 5 f (spWAllX O C D) := by
  obtain ⟨fL, fdL, gL, kL, bL, GL⟩ := DL
  obtain ⟨fC, fdC, gC, kC, bC, GC⟩ := DR
  refine (fun_star1X F (p1 := "self") (pv := "letters") (sp := spWAllXI O C D) sc_Watcher_see_all (fun _ _ _ _ _ _ _ => rfl) (fun _ _ _ _ _ _ _ _ _ => rfl) (fun cdv A outer s0 H vs Q E hr h => ?_)).imp fun vs H Q E h => ?_
  · obtain ⟨s, p, S, pre, b0, rest, us, rfl, hp, W0, hus, hob, rne, rbad, rl, ul, q⟩ := h
    have pl : pre.length ≤ 500 := by
      have := hus.length
      rw [List.length_append] at this
      omega
    have hu : (A.deeper (PyProof.Rows.envOfC "Watcher.see_all" (defScope s_Watcher_see_all) s0.heap.objs.size f cdv)).units + 64 < cLine := by
      have := hr.un
      omega
    have hr3 : Room 3 (A.deeper (PyProof.Rows.envOfC "Watcher.see_all" (defScope s_Watcher_see_all) s0.heap.objs.size f cdv)) := hr.mono (by decide)
    refine ⟨_, pss_cons (ps_set (i := 2) sc_Watcher_see_all.nd rfl (.inl rfl) (pe_fld (pv 0) rfl))
      (pss_cons (ps_set (i := 3) sc_Watcher_see_all.nd rfl (.inl rfl) (pe_lst pa_nil))
      (pss_cons (ps_for (passes_of rfl) rfl (pi_tup (pv 1)) (pg_tup (by rfl) (pgs_cons (pg_name (i := 4) sc_Watcher_see_all.nd rfl (.inr rfl)) (pgs_cons (pg_name (i := 5) sc_Watcher_see_all.nd rfl (.inr rfl)) (pgs_cons (pg_name (i := 6) sc_Watcher_see_all.nd rfl (.inr rfl)) pgs_nil))))
        (pss_cons (ps_expr (pe_call GL hr (by rfl) gL kL bL .nil pass0 (pa_cons (pe_fld (pv 0) rfl) (pa_cons (pv 4) (pa_cons (pv 5) pa_nil)))))
        (pss_cons (ps_expr (pe_call GC hr3 (by rfl) gC kC bC .nil pass0 (pa_cons (pe_fld (pv 0) rfl) (pa_cons (pv 6) pa_nil))))
        (pss_cons (ps_setLc (i := 2) (own := [("candidate", 7)]) (g := gName 7) (tt := tTest (tOp (rEqD K) (tMeth O "result_with" (spWRes O C) [] E0 (tVar 0) (tCons (tVar 7) (tCons (tVar 4) (tCons (tVar 5) tNil)))) (tVar 6))) (te := tVar 7) (by rfl) sc_Watcher_see_all.nd rfl rfl (sw_true rfl rfl rfl (by decide +kernel))
          (pi_list (pv 2)) (blkOk_by (N := N_Watcher_see_all) (sc := defScope s_Watcher_see_all) (by decide +kernel)) (fun _ _ _ _ _ => pg_name (i := 7) sc_Watcher_see_all.nd rfl (.inl rfl))
          (fun _ _ _ _ _ => pts_one (pt_cmpR (op_eqD hu) (pe_meth (pv 0) T.cl mR GR hr3 bR .nil pass0 (pa_cons (pv 7) (pa_cons (pv 4) (pa_cons (pv 5) pa_nil)))) (pv 6) (nomark _))) (fun _ _ _ _ _ => pv 7))
        (pss_cons (ps_if (pt_not (pt_truth (pv 2) (fun _ => rfl))) (pss_one (ps_raise rfl (takes_of rfl rfl rfl rfl) (pmk_err ER (by rfl)))) pss_nil)
        (pss_one (ps_expr (pe_bm PySem.F.plainAttrs_list PySem.F.slot_list_append PySem.F.type_list_append mt_append (pv 3) (pa_cons (pe_tup (pa_cons (pv 4) (pa_cons (pv 5) (pa_cons (pv 6) pa_nil)))) pa_nil)))))))))
      (pss_cons (ps_fld (pv 0) (pv 2) rfl)
      (pss_cons (ps_fld (pv 0) (pe_op op_cat (pe_fld (pv 0) rfl) (pv 3)) rfl)
      (pss_one (ps_ret (pe_callB call_len_seq (by rfl) B.len PySem.boot_len (pa_cons (pv 2) pa_nil)))))))), ?_⟩
    obtain ⟨dx, h1⟩ := W0.ins
    obtain ⟨rv0, h7, h8⟩ := W0.rem
    obtain ⟨dn, _, _, _, hn, _⟩ := id W0.net
    refine ⟨_, rfl, s, O, dx, _, _, rfl, h1, T.cl, T.nR, wf_r, ?_⟩
    refine ⟨Nat.zero_le _, fun L nL => ?_⟩
    have sL := same_upd (o := HO.lst []) nL
    refine ⟨_, rfl, p, rfl, ⟨us, SqT.of (sL _ _ hp)⟩, ?_⟩
    refine for_tup (K := K) (a := p) (xs := us) (fun i σ H' => ∃ (ri : Addr) (rv us' : List V) (y4 y5 y6 : Option V), σ = [some (.ref s), some (.ref p), some (.ref ri), some (.ref L), y4, y5, y6, none] ∧ i ≤ pre.length ∧ Same H H' ∧ H' ri = some (.lst rv) ∧ Paired (StopAt H') rv (remA S (pre.take i)) ∧ ri ≠ L ∧ H' L = some (.lst us') ∧ Paired (ObsAt H') us' (pre.take i))
      ⟨S.r, rv0, [], _, _, _, rfl, Nat.zero_le _, sL, sL _ _ h7, by rw [List.take_zero, remA_nil]; exact Paired.mapP h8 fun _ _ z => z.keep (tk_of sL), ne_of_none h7 nL, upd_same, .nil⟩ (fun i σ H' _ ⟨_, _, _, _, _, _, _, _, e, _⟩ => SqT.of (e _ _ hp)) ?_ ?_
    · rintro i v σ H2 hi ⟨ri, rv, us', y4, y5, y6, rfl, ip, s2, hri, hrv, nri, hL2, hus2⟩
      obtain ⟨b, v', hv', hc, hm, hb⟩ : ∃ b v', us[i]? = some v' ∧ ObsAt H v' b ∧ (b.1.1 < S.h ∧ b.1.2 ≤ 1000000000000000000 ∧ ∀ c, b.2 = some c → c.1 < S.h) ∧ ((i < pre.length ∧ pre[i]? = some b) ∨ (i = pre.length ∧ b = b0)) := by
        by_cases c : i < pre.length
        · have e1 : (pre ++ b0 :: rest)[i]? = some pre[i] := by rw [List.getElem?_append_left c, List.getElem?_eq_getElem c]
          obtain ⟨v', hv', hc⟩ := Paired.get? (i := i) hus e1
          exact ⟨_, v', hv', hc, hob _ (List.mem_append_left _ (List.getElem_mem c)), .inl ⟨c, List.getElem?_eq_getElem c⟩⟩
        · have e0 : i = pre.length := by omega
          have e1 : (pre ++ b0 :: rest)[i]? = some b0 := by rw [e0, List.getElem?_append_right (Nat.le_refl _), Nat.sub_self]; rfl
          obtain ⟨v', hv', hc⟩ := Paired.get? (i := i) hus e1
          exact ⟨_, v', hv', hc, hob _ (List.mem_append_right _ List.mem_cons_self), .inr ⟨e0, rfl⟩⟩
      obtain rfl : v' = v := Option.some.inj (hv'.symm.trans hi)
      obtain ⟨u, y, rfl, hu1, hy⟩ := hc
      obtain ⟨b1, b2, b3⟩ := hm
      have hu2 := s2 _ _ hu1
      have hy2 := OptStop.keep (tk_of s2) hy
      refine ⟨u, _, rfl, SqT.of hu2, rfl, _, _, rfl, _, _, rfl, _, _, rfl, rfl, ?_⟩
      refine ⟨_, rfl, s, O, dx, _, _, rfl, s2 _ _ h1, T.cl, T.nN, wf_n, _, rfl, _, rfl, S.x, S.t, S.p, S.h, b.1.1, b.1.2, S.os, S.F, rfl, W0.net.same s2, b1, b2, ?_⟩
      refine ⟨_, rfl, s, O, dx, _, _, rfl, s2 _ _ h1, T.cl, T.nN, wf_n, _, rfl, S.x, S.t, S.p, S.h, S.os, S.F, y, b.2, rfl, W0.net.same s2, W0.ok.h1, hy2, b3, ?_⟩
      refine ⟨_, rfl, ri, rfl, ⟨_, SqL.of hri⟩, fun D nD => ?_⟩
      have nDri : ri ≠ D := ne_of_none hri nD
      have nDL : L ≠ D := ne_of_none hL2 nD
      have sD := same_upd (o := HO.lst []) nD
      refine lc_list (K := K) (a := ri) (xs := rv) (fun j H' => ∃ acc, Same H2 H' ∧ H' D = some (.lst acc) ∧ Paired (StopAt H') acc (((remA S (pre.take i)).take j).filter (okO S b)))
        ⟨[], sD, upd_same, .nil⟩ (fun j H' _ ⟨_, e, _⟩ => SqL.of (e _ _ hri)) ?_ ?_
      · rintro j x H3 hj ⟨acc, s3, hD3, hacc⟩
        have ltj : j < (remA S (pre.take i)).length := by rw [← hrv.length]; exact (List.getElem?_eq_some_iff.mp hj).1
        have ej := List.getElem?_eq_getElem ltj
        obtain ⟨x', hx', hxc⟩ := Paired.get? (i := j) hrv ej
        obtain rfl : x' = x := Option.some.inj (hx'.symm.trans hj)
        have hmem : (remA S (pre.take i))[j] ∈ S.rem := (List.mem_filter.mp (List.getElem_mem ltj)).1
        have e1 : ((remA S (pre.take i)).take (j + 1)).filter (okO S b) = ((remA S (pre.take i)).take j).filter (okO S b) ++ [(remA S (pre.take i))[j]].filter (okO S b) := by
          rw [List.take_add_one, ej, List.filter_append]
          rfl
        rw [e1]
        have la : acc.length ≤ 100 := by
          rw [hacc.length]
          have q1 := List.length_filter_le (okO S b) ((remA S (pre.take i)).take j)
          have q2 := List.length_take_le j (remA S (pre.take i))
          have q3 := remA_len (S := S) (obs := pre.take i)
          omega
        generalize (remA S (pre.take i))[j] = c at hxc hmem
        refine ⟨rfl, _, rfl, s, dx, _, rfl, s3 _ _ (s2 _ _ h1), wf_no (by decide +kernel) (by decide +kernel) (by decide +kernel) (by decide +kernel), _, rfl, _, rfl, _, rfl, s, S, x', c, b.1.1, b.1.2, rfl, (W0.same s2).same s3, hxc.keep (tk_of s3), W0.sub _ hmem, b1, fun H4 y4' s4 hy4 => ?_⟩
        refine ⟨_, rfl, _, _, opt_dp hy4, opt_dp (OptStop.keep (tk_of (s3.trans s4)) hy2), optD_shaped _, optD_shaped _, _, rfl, ?_⟩
        rw [optD_eqv]
        refine ite2 (fun t => ?_) (fun t => ?_)
        · have e2 : okO S b c = true := t
          rw [List.filter_cons_of_pos e2, List.filter_nil]
          have hD4 := s4 _ _ hD3
          have k6 : TupKeep H3 _ := (tk_of s4).trans (TupKeep.lst (o := HO.lst (acc ++ [x'])) hD4)
          have k7 : TupKeep H2 _ := (tk_of s3).trans k6
          refine ⟨_, rfl, acc, hD4, Nat.lt_of_le_of_lt la (small1000 (by omega)), acc ++ [x'], fun q o e => ?_, upd_same, Paired.snoc (Paired.mapP hacc fun _ _ z => z.keep k6) (hxc.keep k7)⟩
          rw [upd_ne (ne_of_none e nD)]
          exact s4 _ _ (s3 _ _ e)
        · have e2 : ¬ okO S b c = true := t
          rw [List.filter_cons_of_neg e2, List.filter_nil, List.append_nil]
          exact ⟨acc, s3.trans s4, s4 _ _ hD3, Paired.mapP hacc fun _ _ z => z.keep (tk_of s4)⟩
      · rintro H3 ⟨acc, s3, hD3, hacc⟩
        rw [hrv.length, List.take_of_length_le (Nat.le_refl _), ← remA_snoc] at hacc
        have s23 := s2.trans s3
        rcases hb with ⟨cl, eb⟩ | ⟨ce, rfl⟩
        · have tk1 : pre.take (i + 1) = pre.take i ++ [b] := by rw [List.take_add_one, eb]; rfl
          rw [← tk1] at hacc
          have rne1 := remA_take (i + 1) rne
          have ane : acc.isEmpty = false := by
            cases acc with
            | nil =>
              cases e : remA S (pre.take (i + 1)) with
              | nil => exact absurd e rne1
              | cons c r =>
                rw [e] at hacc
                cases hacc
            | cons => rfl
          refine ⟨_, rfl, true, .inl ⟨acc, SqL.of hD3, by rw [ane]; rfl⟩, iteF ?_⟩
          have hL3 := s3 _ _ hL2
          refine ⟨_, rfl, .inl ⟨rfl, _, SqL.of hL3⟩, _, rfl, _, rfl, _, rfl, (by show 3 ≤ sizeLine; decide), fun u' nu' => ?_⟩
          have su := same_upd (o := HO.tup [.int (b.1.1 : Nat), .int (b.1.2 : Nat), y]) nu'
          have nuL : u' ≠ L := (ne_of_none hL3 nu').symm
          have k6 : TupKeep H3 _ := (tk_of su).trans (TupKeep.lst (o := HO.lst (us' ++ [.ref u'])) (su _ _ hL3))
          have k7 : TupKeep H2 _ := (tk_of s3).trans k6
          refine ⟨L, _, _, rfl, rfl, su _ _ hL3, ?_, D, acc, _, _, _, _, rfl, cl, fun q o e => ?_, ?_, Paired.mapP hacc fun _ _ z => z.keep k6, nDL.symm, upd_same, ?_⟩
          · rw [hus2.length, List.length_take]
            exact small1000 (by omega)
          · rw [upd_ne (ne_of_none e nL)]
            exact su _ _ (s3 _ _ (s2 _ _ e))
          · exact (upd_ne nDL.symm).trans (su _ _ hD3)
          · exact (by rw [tk1]; exact Paired.snoc (Paired.mapP hus2 fun _ _ z => z.keep k7) ⟨u', y, rfl, (upd_ne nuL).trans upd_same, OptStop.keep k7 hy2⟩)
        · rw [ce, List.take_of_length_le (Nat.le_refl _), rbad] at hacc
          have ane : acc.isEmpty = true := by
            cases hacc
            rfl
          refine ⟨_, rfl, false, .inl ⟨acc, SqL.of hD3, by rw [ane]; rfl⟩, iteT ?_⟩
          exact q H3 s23
    · rintro σ H2 ⟨ri, rv, us', y4, y5, y6, rfl, ip, _⟩
      rw [hus.length, List.length_append, List.length_cons] at ip
      omega
  · obtain ⟨s, S, pre, b0, rest, us, rfl, W0, hus, hob, rne, rbad, rl, ul, q⟩ := h
    refine ⟨_, us, rfl, Nat.le_of_lt (small1000 (by omega)), fun p np => ?_⟩
    have sp := same_upd (o := HO.tup us) np
    exact ⟨s, p, S, pre, b0, rest, us, rfl, upd_same, W0.same sp, Paired.mapP hus fun _ _ z => z.keep (tk_of sp), hob, rne, rbad, rl, ul, fun H' e => q H' (sp.trans e)⟩
def spWSeeX (O C D : Addr) : Sp := fun vs H _ E => ∃ (s : Addr) (S : WatS) (hs dy : Nat) (y : V) (r : Option (Nat × Nat)), vs = [.ref s, .int hs, .int dy, y] ∧ WatAt O C H s S ∧ OptStop H y r ∧ hs < S.h ∧ dy ≤ 1000000000000000000 ∧ (∀ c, r = some c → c.1 < S.h) ∧ S.rem ≠ [] ∧ remA S [((hs, dy), r)] = [] ∧ S.rem.length ≤ 100 ∧
  ∀ H', Same H H' → E (.ref D) none H'
theorem ok_w_seeX {f fA O C D : Addr} {fd : FuncData} (F : Fun K "see" "Watcher.see" s_Watcher_see f fd) (T : WatT K O) (mA : Meth K O "see_all" fA) (GA : FnR P w K mg base (L2.CX P w) 5 fA (spWAllX O C D)) : FnOk P w K mg base (L2.CX P w) 6 f fd P_Watcher_see (spWSeeX O C D) := by
  refine F.okX sc_Watcher_see (fun vs H Q E h => ?_) (fun cdv A outer s0 H vs Q E hr h => ?_)
  · obtain ⟨s, S, hs, dy, y, r, rfl, _⟩ := h
    rfl
  · obtain ⟨s, S, hs, dy, y, r, rfl, W0, hy, hh, hd, hc, rn, rbad, rl, q⟩ := h
    refine ⟨_, pss_one (ps_ret (pe_methR (E := E) (pv 0) T.cl mA GA hr (passes_call (takes_of rfl rfl rfl rfl) fun _ _ _ _ z => z) (pa_cons (pe_tup (pa_cons (pv 1) (pa_cons (pv 2) (pa_cons (pv 3) pa_nil)))) pa_nil))), ?_⟩
    obtain ⟨dx, h1⟩ := W0.ins
    refine ⟨_, rfl, s, dx, _, rfl, h1, wf_no (by decide +kernel) (by decide +kernel) (by decide +kernel) (by decide +kernel), _, rfl, _, rfl, _, rfl, (by show 3 ≤ sizeLine; decide), fun u nu => ?_⟩
    have su := same_upd (o := HO.tup [.int (hs : Nat), .int (dy : Nat), y]) nu
    refine ⟨s, S, [], ((hs, dy), r), [], [.ref u], rfl, W0.same su, .cons ⟨u, y, rfl, upd_same, OptStop.keep (tk_of su) hy⟩ .nil, fun b hb => ?_, by rw [remA_nil]; exact rn, rbad, rl, by show 1 ≤ 500; decide, fun H' e => q H' (su.trans e)⟩
    rw [List.mem_singleton.mp hb]
    exact ⟨hh, hd, hc⟩
end
/-! ### a law that makes lambdas: its own def, its table, what stands when a table grows -/
open LamX (Tabs TabS ExtN TabB CodeO) in
section
variable {K : PySem.W.Frag}
structure FunC (K : PySem.W.Frag) (x qual : Str) (st : Stmt) (f : Addr) (fd : FuncData) (c : Addr) : Prop where
  ex : ∃ (oc : Value) (od : Option Addr) (kV doc pm : Value) (an : Option Addr) (ct : Value) (osl : Array (Option Value)),
    fd = PySem.W.fnOf x qual (defArgs st) (defBody st) (defScope st) .none kV doc pm an (.ref c) ct ∧ K.lookup f = some ⟨oc, od, .func fd, osl⟩ ∧ PySem.W.codeIn K (.ref c) qual = true
theorem FunC.ok {P : Program} {w : World} {mg : Str → Option Value} {base : Heap} {x qual : Str} {st : Stmt} {f c : Addr} {fd : FuncData} {N ps : List Str} {k : Nat} {sp : Sp} (F : FunC K x qual st f fd c) (S : FnScope N ps (defScope st)) (len : ∀ vs H Q E, sp vs H Q E → vs.length = ps.length)
    (hbody : ∀ (A : Around) (outer : List Env) (s : Shared) (H : Hp) (vs : List V) (Q : VK) (E : XK), Room k (A.deeper (PyProof.Rows.envOfC qual (defScope st) s.heap.objs.size f (.ref c))) → sp vs H Q E →
      ∃ t, PSs (cxOf CX0 P w K mg base N qual (defScope st) f (.ref c) A outer s H E).nox (defBody st) t ∧ t { nx := fun _ H' => Q .non H', rt := Q } (L2.start N vs) H) : FnOk P w K mg base CX0 (k + 1) f fd ps sp := by
  obtain ⟨oc, od, kV, doc, pm, an, ct, osl, rfl, lk, hcd⟩ := F.ex
  refine fn_of lk hcd S len fun A outer s H vs Q E hr hsp => ?_
  obtain ⟨t, h, q⟩ := hbody A outer s H vs Q E hr hsp
  exact ⟨t, h.nox, q⟩
/-- the law's promise where its code object's table is Pt -/
def spLawT (K : PySem.W.Frag) (Pt : Addr) : Sp := fun vs H Q _ => ∃ (a : Addr) (ns : List Int), vs = [.ref a] ∧ SqL K H a (ns.map V.int) ∧ ns.length ≤ 63 ∧ H Pt = some (.tbl #[]) ∧ ∀ H', Q (.bl true) H'
theorem codeO_lst {c : Addr} {q : Str} {xs : List V} : CodeO c q ≠ .lst xs := fun z => by
  unfold CodeO at z
  cases z
theorem codeO_ins {c C dx : Addr} {q : Str} {fs : List (Str × V)} : CodeO c q ≠ .ins C dx fs := fun z => by
  unfold CodeO at z
  cases z
theorem tabs_but {T : List (Addr × Str)} {H H' : Hp} {d : Addr} {o : HO} (t : Tabs T H) (b : But d H H') (hd : H d = some o) (n1 : ∀ ps, o ≠ .tbl ps) (n2 : ∀ c q, o ≠ CodeO c q) : Tabs T H' := fun p hp => by
  obtain ⟨ps, h1, h2, h3⟩ := t p hp
  refine ⟨ps, b _ _ (fun z => ?_) h1, h2, fun pos cv hc => ?_⟩
  · rw [z, hd] at h1
    exact n1 _ (Option.some.inj h1)
  · obtain ⟨c, e, h4⟩ := h3 pos cv hc
    refine ⟨c, e, b _ _ (fun z => ?_) h4⟩
    rw [z, hd] at h4
    exact n2 _ _ (Option.some.inj h4)
theorem tabs_butL {T : List (Addr × Str)} {H H' : Hp} {d : Addr} {xs : List V} (t : Tabs T H) (b : But d H H') (hd : H d = some (.lst xs)) : Tabs T H' := tabs_but t b hd (fun ps z => by cases z) fun c q z => codeO_lst z.symm
theorem tabs_butD {T : List (Addr × Str)} {H H' : Hp} {d : Addr} (t : Tabs T H) (b : But d H H') (D : DAt H d) : Tabs T H' := by
  obtain ⟨_, _, _, _, _, hd⟩ := D
  exact tabs_butL t b hd
theorem tabs_butI {T : List (Addr × Str)} {H H' : Hp} {s C dx : Addr} {fs : List (Str × V)} (t : Tabs T H) (b : But s H H') (hi : H s = some (.ins C dx fs)) : Tabs T H' := tabs_but t b hi (fun ps z => by cases z) fun c q z => codeO_ins z.symm
section
variable {H H' : Hp}
theorem ExtN.tk (e : ExtN H H') : TupKeep H H' := fun _ _ h => e _ _ h fun ps z => by cases z
theorem ExtN.lst (e : ExtN H H') {b : Addr} {xs : List V} (h : H b = some (.lst xs)) : H' b = some (.lst xs) := e _ _ h fun ps z => by cases z
theorem ExtN.ins (e : ExtN H H') {b C dx : Addr} {fs : List (Str × V)} (h : H b = some (.ins C dx fs)) : H' b = some (.ins C dx fs) := e _ _ h fun ps z => by cases z
theorem ExtN.dT (e : ExtN H H') {b : Addr} {kvs : List (List L2.Key × V)} (h : H b = some (.dT kvs)) : H' b = some (.dT kvs) := e _ _ h fun ps z => by cases z
theorem DAt.extN {d : Addr} (D : DAt H d) (e : ExtN H H') : DAt H' d := by
  obtain ⟨a, b, c, h1, h2, h3⟩ := D
  exact ⟨a, b, c, h1, h2, ExtN.lst e h3⟩
theorem NetAt.extN {C : Addr} {x : Addr} {p h : Nat} {os : List Od} {t : Addr} {F : List Addr} (N : NetAt C H x p h os t F) (e : ExtN H H') : NetAt C H' x p h os t F := by
  obtain ⟨dx, fl, as, rfl, h1, h2, h3, h4, h5⟩ := N
  exact ⟨dx, fl, as, rfl, ExtN.ins e h1, h2.keep (ExtN.tk e), ExtN.lst e h3, h4, fun i a hi => ExtN.lst e (h5 i a hi)⟩
theorem tabs_same {T : List (Addr × Str)} (t : Tabs T H) (s : Same H H') : Tabs T H' := LamX.Tabs.ext t fun b o e => s b o e
end
end
/-! ### watchers where a table grows -/
open LamX (ExtN) in
section
variable {H H' : Hp}
theorem WatAt.extN {O C : Addr} {s : Addr} {S : WatS} (A : WatAt O C H s S) (e : ExtN H H') : WatAt O C H' s S := by
  obtain ⟨⟨dx, h1⟩, h2, h3, h4, h5, h6, ⟨rv, h7, h8⟩, h9, ⟨av, h10, h11⟩⟩ := A
  exact ⟨⟨dx, ExtN.ins e h1⟩, h2.extN e, h3, h4, ⟨ExtN.dT e h5.tab, h5.ne, fun c hc => by
    obtain ⟨ks, f, a, b⟩ := h5.ways c hc
    exact ⟨ks, f, ⟨ExtN.dT e a.tab, a.nd, a.ok, fun q hq => (a.ways q hq).keep (ExtN.tk e)⟩, b⟩⟩, h6, ⟨rv, ExtN.lst e h7, Paired.mapP h8 fun _ _ z => z.keep (ExtN.tk e)⟩, h9, ⟨av, ExtN.lst e h10, Paired.mapP h11 fun _ _ z => z.keep (ExtN.tk e)⟩⟩
theorem LCands.extN {p h k : Nat} {os : List Od} {o : Od} {w : Addr} {cs : List ((Nat × Nat) × Addr)} (W : LCands p h os k o H w cs) (e : ExtN H H') : LCands p h os k o H' w cs :=
  ⟨ExtN.dT e W.tab, fun c hc => (W.parts c hc).keep (ExtN.tk e)⟩
end
abbrev s_l_error_of : Stmt := top 56
abbrev N_l_error_of : List Str := ["_law_call", "e", "_law_kinds", "_law_names", "_law_name"]
abbrev P_l_error_of : List Str := ["_law_call"]
theorem sc_l_error_of : FnScope N_l_error_of P_l_error_of (defScope s_l_error_of) := ⟨rfl, rfl, rfl, by decide +kernel, rfl, by decide +kernel, by decide +kernel⟩
/-! ### the law's helper: which error a call raises -/
def eNames : List Str := ["day", "house", "number", "limit", "order", "many", "long", "result", "contradiction", "name", "unknown", "net", "text", "code", "operation"]
def eName (i : Nat) : Str := eNames.getD i "day"
/-- the classes of errors, by the names that the law's helper asks for -/
structure ErrM (mg : Str → Option Value) (CP : Addr) (c : Nat → Addr) : Prop where
  gp : mg "PostError" = some (.ref CP)
  g0 : mg "InvalidDay" = some (.ref (c 0))
  g1 : mg "UnknownHouse" = some (.ref (c 1))
  g2 : mg "UnknownOrder" = some (.ref (c 2))
  g3 : mg "InvalidLimit" = some (.ref (c 3))
  g4 : mg "InvalidOrder" = some (.ref (c 4))
  g5 : mg "TooManyOrders" = some (.ref (c 5))
  g6 : mg "TooLong" = some (.ref (c 6))
  g7 : mg "InvalidResult" = some (.ref (c 7))
  g8 : mg "Contradiction" = some (.ref (c 8))
  g9 : mg "InvalidName" = some (.ref (c 9))
  g10 : mg "UnknownName" = some (.ref (c 10))
  g11 : mg "InvalidNet" = some (.ref (c 11))
  g12 : mg "TextFault" = some (.ref (c 12))
  g13 : mg "InvalidCode" = some (.ref (c 13))
  g14 : mg "InvalidOperation" = some (.ref (c 14))
  gv : mg "ValueError" = none
/-- D is the i-th of these classes -/
structure Err15 (K : PySem.W.Frag) (CP : Addr) (c : Nat → Addr) (D : Addr) (i : Nat) : Prop where
  lt : i < 15
  cl : ExcC K D
  ex : PySem.W.exmOne K (.ref D) (.ref CP) = some true
  is : ∀ j, j < 15 → PySem.W.kitOne K (.ref D) (.ref (c j)) = some (decide (j = i))
  ve : PySem.W.kitOne K (.ref D) (.type "ValueError") = some true
def kindsL (i : Nat) : List V := (List.range 15).map fun j => V.bl (decide (j = i))
theorem kinds_count (i : Nat) (h : i < 15) : ((List.range 15).map fun j => PyData.bool (decide (j = i))).countP (fun z => PyData.eqv z (.bool true)) = 1 := by
  rw [List.countP_map]
  have e : ((fun z => PyData.eqv z (.bool true)) ∘ fun j => PyData.bool (decide (j = i))) = fun j => decide (j = i) := by
    funext j
    show PyData.eqv (.bool (decide (j = i))) (.bool true) = decide (j = i)
    cases decide (j = i) <;> simp [PyData.eqv]
  rw [e]
  have : ∀ i, i < 15 → (List.range 15).countP (fun j => decide (j = i)) = 1 := by decide +kernel
  exact this i h
section
variable {K : PySem.W.Frag} {H : Hp}
theorem kinds_dp (i : Nat) : DpAll K H (kindsL i) ((List.range 15).map fun j => PyData.bool (decide (j = i))) := by
  unfold kindsL
  generalize List.range 15 = l
  induction l with
  | nil => exact .nil
  | cons j r ih => exact .cons (.bl _) ih
end
theorem kinds_plain (i : Nat) : PyData.plainAll ((List.range 15).map fun j => PyData.bool (decide (j = i))) = true := by
  generalize List.range 15 = l
  induction l with
  | nil => rfl
  | cons j r ih => simp [PyData.plainAll, PyData.plain, ih]
theorem kinds_at {i j : Nat} (h : j < 15) : (kindsL i)[j]? = some (V.bl (decide (j = i))) := by
  unfold kindsL
  rw [List.getElem?_map, List.getElem?_range h]
  rfl
theorem kinds_flat (i : Nat) : (kindsL i).all flatV = true := by
  rw [List.all_eq_true]
  intro v hv
  obtain ⟨j, _, rfl⟩ := List.mem_map.mp hv
  rfl
theorem eName_plain : ∀ i, i < 11 → eName i ≠ "net" ∧ eName i ≠ "text" ∧ eName i ≠ "code" ∧ eName i ≠ "operation" := by decide +kernel
theorem eName_at {i : Nat} (h : i < 15) : (eNames.map V.str)[i]? = some (V.str (eName i)) := by
  have hl : i < eNames.length := h
  unfold eName
  rw [List.getElem?_map, List.getElem?_eq_getElem hl]
  simp [List.getD, List.getElem?_eq_getElem hl]
section
variable {X : Cx}
theorem pe_never {e : Expr} : PE X e (fun _ _ _ => False) := ⟨fun _ _ _ _ _ _ h => h.elim⟩
end
section
open LamX
variable {X : Cx} {C : Addr}
/-- what the helper makes of a call that raises one of the plain errors, or none -/
def TTerr (K : PySem.W.Frag) (CP : Addr) (c : Nat → Addr) : (XK → Hp → VK → Prop) → Hp → VK → Prop := fun tl H Q =>
  tl (fun cls d H' => ∃ D i, cls = .ref D ∧ d = none ∧ Err15 K CP c D i ∧ i < 11 ∧ ∀ u H'', Same H' H'' → H'' u = some (.tup [.str (eName i), .int 0]) → Q (.ref u) H'') H fun _ H' => Q .non H'
set_option maxHeartbeats 0 in
theorem err_core {g CP : Addr} {cdg : Value} {c : Nat → Addr} {k : Nat} (M : ErrM X.mg CP c) (B : Blt X.mg) (hr : Room (k + 2) X.A) {f : Addr} {s : Shared} {H : Hp} {Q : VK} {tl : XK → Hp → VK → Prop}
    (act : ∀ (W : WX) (pn : List (Addr × Obj)) (xe : Value → Shared → Prop) (E : XK) (p1 p2 : Pos), L2.Takes ((cxOf C8.CX0 X.prog X.w X.K X.mg X.base N_l_error_of "_law_error_of" (defScope s_l_error_of) g cdg X.A X.stack s H C8.E0).tr pn xe) W → (∀ cls d σ' H', E cls d H' → W cls d σ' H') →
      PE ((cxOf C8.CX0 X.prog X.w X.K X.mg X.base N_l_error_of "_law_error_of" (defScope s_l_error_of) g cdg X.A X.stack s H C8.E0).tr pn xe) (.Call (.Name "_law_call" p1) [] [] p2) (fun σZ HZ Q => σZ[0]? = some (some (.ref f)) ∧ tl E HZ Q)) (h : TTerr X.K CP c tl H Q) :
    ∃ t, PSs (cxOf C8.CX0 X.prog X.w X.K X.mg X.base N_l_error_of "_law_error_of" (defScope s_l_error_of) g cdg X.A X.stack s H C8.E0).nox (defBody s_l_error_of) t ∧ t { nx := fun _ H' => Q .non H', rt := Q } (L2.start N_l_error_of [.ref f]) H := by
  have hu : (X.A.deeper (PyProof.Rows.envOfC "_law_error_of" (defScope s_l_error_of) s.heap.objs.size g cdg)).units + 65 < cLine := by
    have := (hr.deeper (PyProof.Rows.envOfC "_law_error_of" (defScope s_l_error_of) s.heap.objs.size g cdg)).un
    omega
  refine ⟨_, pss_cons (ps_try_as (X := (cxOf C8.CX0 X.prog X.w X.K X.mg X.base N_l_error_of "_law_error_of" (defScope s_l_error_of) g cdg X.A X.stack s H C8.E0).nox) (c := .ref CP) (i := 1)
      (tb := fun W D σ H => ∃ Ech : XK, (∀ cls d σ' H', Ech cls d H' → W cls d σ' H') ∧ σ[0]? = some (some (.ref f)) ∧ tl Ech H (fun _ H' => D.nx σ H'))
      (ts := fun a cls d Dn σ H => ∃ D i, cls = .ref D ∧ d = none ∧ Err15 X.K CP c D i ∧ i < 11 ∧ (∃ σ0 : L2.St, σ = σ0.set 1 (some (.ref a))) ∧ ∀ u H'', Same H H'' → H'' u = some (.tup [.str (eName i), .int 0]) → Dn.rt (.ref u) H'')
      rfl rfl sc_l_error_of.nd rfl rfl ⟨rfl, by decide, .inl M.gp⟩ L2.takes0 (fun W pn xe tk _ => ?_) (fun a oe cls d pn hz hf => ?_)) (pss_one (ps_ret pe_non)), ?_⟩
  · refine ⟨fun pins s' σ H' D I h' => ?_⟩
    obtain ⟨Ech, hW, h1, h3⟩ := h'
    refine PSs.run (pss_one (ps_expr (act W pn xe Ech _ _ tk hW))) pins s' σ H' D I ⟨h1, h3⟩
  · refine ⟨fun pins s' σ H' Dn I' h' => ?_⟩
    obtain ⟨D, i, rfl, rfl, e15, hi, ⟨σ0, rfl⟩, hq⟩ := h'
    have hlen : (σ0.set 1 (some (V.ref a))).length = 5 := I'.len
    rw [List.length_set] at hlen
    obtain ⟨y0, y1, y2, y3, y4, rfl⟩ : ∃ y0 y1 y2 y3 y4, σ0 = [y0, y1, y2, y3, y4] := by
      match σ0, hlen with
      | [y0, y1, y2, y3, y4], _ => exact ⟨_, _, _, _, _, rfl⟩
    let Z : Cx := (cxOf C8.CX0 X.prog X.w X.K X.mg X.base N_l_error_of "_law_error_of" (defScope s_l_error_of) g cdg X.A X.stack s H C8.E0).nox
    have iE := call_isE (X := Z) (a := a) (D := D) (oe := oe) (pn := pn) e15.cl hz hf
    refine PSs.run (X := Z.suite a ((a, oe) :: pn)) (pss_cons (ps_set (i := 2) sc_l_error_of.nd rfl (.inl rfl) (pe_lst (pa_cons (pe_callB iE (by rfl) B.isi PyProof.Rows.boot_isinstance (pa_cons (pv 1) (pa_cons (pe_glob (v := .ref (c 0)) (by rfl) M.g0 rfl) pa_nil))) (pa_cons (pe_callB iE (by rfl) B.isi PyProof.Rows.boot_isinstance (pa_cons (pv 1) (pa_cons (pe_glob (v := .ref (c 1)) (by rfl) M.g1 rfl) pa_nil))) (pa_cons (pe_callB iE (by rfl) B.isi PyProof.Rows.boot_isinstance (pa_cons (pv 1) (pa_cons (pe_glob (v := .ref (c 2)) (by rfl) M.g2 rfl) pa_nil))) pa_nil)))))
        (pss_cons (ps_set (i := 2) sc_l_error_of.nd rfl (.inl rfl) (pe_op op_cat (pv 2) (pe_lst (pa_cons (pe_callB iE (by rfl) B.isi PyProof.Rows.boot_isinstance (pa_cons (pv 1) (pa_cons (pe_glob (v := .ref (c 3)) (by rfl) M.g3 rfl) pa_nil))) (pa_cons (pe_callB iE (by rfl) B.isi PyProof.Rows.boot_isinstance (pa_cons (pv 1) (pa_cons (pe_glob (v := .ref (c 4)) (by rfl) M.g4 rfl) pa_nil))) (pa_cons (pe_callB iE (by rfl) B.isi PyProof.Rows.boot_isinstance (pa_cons (pv 1) (pa_cons (pe_glob (v := .ref (c 5)) (by rfl) M.g5 rfl) pa_nil))) pa_nil))))))
        (pss_cons (ps_set (i := 2) sc_l_error_of.nd rfl (.inl rfl) (pe_op op_cat (pv 2) (pe_lst (pa_cons (pe_callB iE (by rfl) B.isi PyProof.Rows.boot_isinstance (pa_cons (pv 1) (pa_cons (pe_glob (v := .ref (c 6)) (by rfl) M.g6 rfl) pa_nil))) (pa_cons (pe_callB iE (by rfl) B.isi PyProof.Rows.boot_isinstance (pa_cons (pv 1) (pa_cons (pe_glob (v := .ref (c 7)) (by rfl) M.g7 rfl) pa_nil))) (pa_cons (pe_callB iE (by rfl) B.isi PyProof.Rows.boot_isinstance (pa_cons (pv 1) (pa_cons (pe_glob (v := .ref (c 8)) (by rfl) M.g8 rfl) pa_nil))) pa_nil))))))
        (pss_cons (ps_set (i := 2) sc_l_error_of.nd rfl (.inl rfl) (pe_op op_cat (pv 2) (pe_lst (pa_cons (pe_callB iE (by rfl) B.isi PyProof.Rows.boot_isinstance (pa_cons (pv 1) (pa_cons (pe_glob (v := .ref (c 9)) (by rfl) M.g9 rfl) pa_nil))) (pa_cons (pe_callB iE (by rfl) B.isi PyProof.Rows.boot_isinstance (pa_cons (pv 1) (pa_cons (pe_glob (v := .ref (c 10)) (by rfl) M.g10 rfl) pa_nil))) (pa_cons (pe_callB iE (by rfl) B.isi PyProof.Rows.boot_isinstance (pa_cons (pv 1) (pa_cons (pe_glob (v := .ref (c 11)) (by rfl) M.g11 rfl) pa_nil))) pa_nil))))))
        (pss_cons (ps_set (i := 2) sc_l_error_of.nd rfl (.inl rfl) (pe_op op_cat (pv 2) (pe_lst (pa_cons (pe_callB iE (by rfl) B.isi PyProof.Rows.boot_isinstance (pa_cons (pv 1) (pa_cons (pe_glob (v := .ref (c 12)) (by rfl) M.g12 rfl) pa_nil))) (pa_cons (pe_callB iE (by rfl) B.isi PyProof.Rows.boot_isinstance (pa_cons (pv 1) (pa_cons (pe_glob (v := .ref (c 13)) (by rfl) M.g13 rfl) pa_nil))) (pa_cons (pe_callB iE (by rfl) B.isi PyProof.Rows.boot_isinstance (pa_cons (pv 1) (pa_cons (pe_glob (v := .ref (c 14)) (by rfl) M.g14 rfl) pa_nil))) pa_nil))))))
        (pss_cons (ps_if (PW.pt (pw_or (pt_cmpR op_ne (pe_bm PySem.F.plainAttrs_list PySem.F.slot_list_count PySem.F.type_list_count (mt_countD hu) (pv 2) (pa_cons pe_bl pa_nil)) pe_int (nomark _)) (pw_or1 (pt_not (pt_val (pe_callB iE (by rfl) B.isi PyProof.Rows.boot_isinstance (pa_cons (pv 1) (pa_cons (pe_bltn (v := .ty "ValueError") (by rfl) M.gv (by decide +kernel) rfl) pa_nil)))))))) (pss_one (ps_ret (pe_tup (pa_cons pe_str (pa_cons pe_int pa_nil))))) pss_nil)
        (pss_cons (ps_set (i := 3) sc_l_error_of.nd rfl (.inl rfl) (pe_lst (pa_cons pe_str (pa_cons pe_str (pa_cons pe_str (pa_cons pe_str (pa_cons pe_str (pa_cons pe_str (pa_cons pe_str (pa_cons pe_str (pa_cons pe_str (pa_cons pe_str pa_nil))))))))))))
        (pss_cons (ps_set (i := 4) sc_l_error_of.nd rfl (.inl rfl) (pe_ix ix_list (pe_op op_cat (pv 3) (pe_lst (pa_cons pe_str (pa_cons pe_str (pa_cons pe_str (pa_cons pe_str (pa_cons pe_str pa_nil))))))) (pe_bm PySem.F.plainAttrs_list PySem.F.slot_list_index PySem.F.type_list_index mt_index (pv 2) (pa_cons pe_bl pa_nil)) (fun _ _ => rfl)))
        (pss_cons (ps_if (pt_cmpR op_eq (pv 4) pe_str (nomark _)) (pss_one (ps_ret pe_never)) pss_nil)
        (pss_cons (ps_if (pt_cmpR op_eq (pv 4) pe_str (nomark _)) (pss_one (ps_ret pe_never)) pss_nil)
        (pss_one (ps_ret (pe_tup (pa_cons (pv 4) (pa_cons (pe_ifExp (pt_cmpR op_in_seq (pv 4) (pe_lst (pa_cons pe_str (pa_cons pe_str pa_nil))) rfl) pe_never pe_int) pa_nil))))))))))))))) pins s' _ H' Dn I' ?_
    refine ⟨_, rfl, .ref (c 0), .ref (c 0), _, rfl, (fun _ r => r), e15.is 0 (by decide), _, rfl, .ref (c 1), .ref (c 1), _, rfl, (fun _ r => r), e15.is 1 (by decide), _, rfl, .ref (c 2), .ref (c 2), _, rfl, (fun _ r => r), e15.is 2 (by decide), (by show 3 ≤ sizeLine; decide), fun l0 n0 => ?_⟩
    have hk0 : (upd H' l0 (.lst [.bl (decide (0 = i)), .bl (decide (1 = i)), .bl (decide (2 = i))])) l0 = some (.lst [.bl (decide (0 = i)), .bl (decide (1 = i)), .bl (decide (2 = i))]) := upd_same
    have sm0 := same_upd (o := HO.lst [.bl (decide (0 = i)), .bl (decide (1 = i)), .bl (decide (2 = i))]) n0
    generalize (upd H' l0 (.lst [.bl (decide (0 = i)), .bl (decide (1 = i)), .bl (decide (2 = i))])) = H0 at hk0 sm0
    refine ⟨_, rfl, _, rfl, .ref (c 3), .ref (c 3), _, rfl, (fun _ r => r), e15.is 3 (by decide), _, rfl, .ref (c 4), .ref (c 4), _, rfl, (fun _ r => r), e15.is 4 (by decide), _, rfl, .ref (c 5), .ref (c 5), _, rfl, (fun _ r => r), e15.is 5 (by decide), (by show 3 ≤ sizeLine; decide), fun b1 nb1 => ?_⟩
    obtain ⟨L1, eL1⟩ : ∃ L : List V, L = [.bl (decide (0 = i)), .bl (decide (1 = i)), .bl (decide (2 = i))] ++ [.bl (decide (3 = i)), .bl (decide (4 = i)), .bl (decide (5 = i))] := ⟨_, rfl⟩
    have sb1 := same_upd (o := HO.lst [.bl (decide (3 = i)), .bl (decide (4 = i)), .bl (decide (5 = i))]) nb1
    refine ⟨l0, b1, _, _, rfl, rfl, sb1 _ _ hk0, upd_same, (by show 3 + 3 ≤ sizeLine; decide), fun l1 n1 => ?_⟩
    rw [← eL1]
    have sm1 := sm0.trans (sb1.trans (same_upd (o := HO.lst L1) n1))
    have hk1 : (upd (upd H0 b1 (.lst [.bl (decide (3 = i)), .bl (decide (4 = i)), .bl (decide (5 = i))])) l1 (.lst L1)) l1 = some (.lst L1) := upd_same
    generalize (upd (upd H0 b1 (.lst [.bl (decide (3 = i)), .bl (decide (4 = i)), .bl (decide (5 = i))])) l1 (.lst L1)) = H1 at hk1 sm1
    refine ⟨_, rfl, _, rfl, .ref (c 6), .ref (c 6), _, rfl, (fun _ r => r), e15.is 6 (by decide), _, rfl, .ref (c 7), .ref (c 7), _, rfl, (fun _ r => r), e15.is 7 (by decide), _, rfl, .ref (c 8), .ref (c 8), _, rfl, (fun _ r => r), e15.is 8 (by decide), (by show 3 ≤ sizeLine; decide), fun b2 nb2 => ?_⟩
    obtain ⟨L2, eL2⟩ : ∃ L : List V, L = L1 ++ [.bl (decide (6 = i)), .bl (decide (7 = i)), .bl (decide (8 = i))] := ⟨_, rfl⟩
    have sb2 := same_upd (o := HO.lst [.bl (decide (6 = i)), .bl (decide (7 = i)), .bl (decide (8 = i))]) nb2
    refine ⟨l1, b2, _, _, rfl, rfl, sb2 _ _ hk1, upd_same, (by rw [eL1]; show 6 + 3 ≤ sizeLine; decide), fun l2 n2 => ?_⟩
    rw [← eL2]
    have sm2 := sm1.trans (sb2.trans (same_upd (o := HO.lst L2) n2))
    have hk2 : (upd (upd H1 b2 (.lst [.bl (decide (6 = i)), .bl (decide (7 = i)), .bl (decide (8 = i))])) l2 (.lst L2)) l2 = some (.lst L2) := upd_same
    generalize (upd (upd H1 b2 (.lst [.bl (decide (6 = i)), .bl (decide (7 = i)), .bl (decide (8 = i))])) l2 (.lst L2)) = H2 at hk2 sm2
    refine ⟨_, rfl, _, rfl, .ref (c 9), .ref (c 9), _, rfl, (fun _ r => r), e15.is 9 (by decide), _, rfl, .ref (c 10), .ref (c 10), _, rfl, (fun _ r => r), e15.is 10 (by decide), _, rfl, .ref (c 11), .ref (c 11), _, rfl, (fun _ r => r), e15.is 11 (by decide), (by show 3 ≤ sizeLine; decide), fun b3 nb3 => ?_⟩
    obtain ⟨L3, eL3⟩ : ∃ L : List V, L = L2 ++ [.bl (decide (9 = i)), .bl (decide (10 = i)), .bl (decide (11 = i))] := ⟨_, rfl⟩
    have sb3 := same_upd (o := HO.lst [.bl (decide (9 = i)), .bl (decide (10 = i)), .bl (decide (11 = i))]) nb3
    refine ⟨l2, b3, _, _, rfl, rfl, sb3 _ _ hk2, upd_same, (by rw [eL2, eL1]; show 9 + 3 ≤ sizeLine; decide), fun l3 n3 => ?_⟩
    rw [← eL3]
    have sm3 := sm2.trans (sb3.trans (same_upd (o := HO.lst L3) n3))
    have hk3 : (upd (upd H2 b3 (.lst [.bl (decide (9 = i)), .bl (decide (10 = i)), .bl (decide (11 = i))])) l3 (.lst L3)) l3 = some (.lst L3) := upd_same
    generalize (upd (upd H2 b3 (.lst [.bl (decide (9 = i)), .bl (decide (10 = i)), .bl (decide (11 = i))])) l3 (.lst L3)) = H3 at hk3 sm3
    refine ⟨_, rfl, _, rfl, .ref (c 12), .ref (c 12), _, rfl, (fun _ r => r), e15.is 12 (by decide), _, rfl, .ref (c 13), .ref (c 13), _, rfl, (fun _ r => r), e15.is 13 (by decide), _, rfl, .ref (c 14), .ref (c 14), _, rfl, (fun _ r => r), e15.is 14 (by decide), (by show 3 ≤ sizeLine; decide), fun b4 nb4 => ?_⟩
    obtain ⟨L4, eL4⟩ : ∃ L : List V, L = L3 ++ [.bl (decide (12 = i)), .bl (decide (13 = i)), .bl (decide (14 = i))] := ⟨_, rfl⟩
    have sb4 := same_upd (o := HO.lst [.bl (decide (12 = i)), .bl (decide (13 = i)), .bl (decide (14 = i))]) nb4
    refine ⟨l3, b4, _, _, rfl, rfl, sb4 _ _ hk3, upd_same, (by rw [eL3, eL2, eL1]; show 12 + 3 ≤ sizeLine; decide), fun l4 n4 => ?_⟩
    rw [← eL4]
    have sm4 := sm3.trans (sb4.trans (same_upd (o := HO.lst L4) n4))
    have hk4 : (upd (upd H3 b4 (.lst [.bl (decide (12 = i)), .bl (decide (13 = i)), .bl (decide (14 = i))])) l4 (.lst L4)) l4 = some (.lst L4) := upd_same
    generalize (upd (upd H3 b4 (.lst [.bl (decide (12 = i)), .bl (decide (13 = i)), .bl (decide (14 = i))])) l4 (.lst L4)) = H4 at hk4 sm4
    have hk : H4 l4 = some (.lst (kindsL i)) := by rw [hk4, eL4, eL3, eL2, eL1]; rfl
    clear hk4 hk3 hk2 hk1 hk0
    refine ⟨_, rfl, .inl ⟨rfl, _, SqL.of hk⟩, l4, _, .bl true, .bool true, _, rfl, rfl, SqL.of hk, kinds_dp i, .bl true, kinds_plain i, rfl, by decide, ?_⟩
    rw [kinds_count i e15.lt]
    refine ⟨rfl, _, rfl, iteF ⟨_, rfl, .ty "ValueError", .type "ValueError", _, rfl, (fun _ r => r), e15.ve, _, rfl, iteF ?_⟩⟩
    refine ⟨(by show 10 ≤ sizeLine; decide), fun m1 nm1 => ?_⟩
    have st1 := same_upd (o := HO.lst ((eNames.take 10).map V.str)) nm1
    refine ⟨_, rfl, (by show 5 ≤ sizeLine; decide), fun m2 nm2 => ?_⟩
    have st2 := same_upd (o := HO.lst ((eNames.drop 10).map V.str)) nm2
    refine ⟨m1, m2, _, _, rfl, rfl, st2 _ _ upd_same, upd_same, (by show 10 + 5 ≤ sizeLine; decide), fun m3 nm3 => ?_⟩
    have st3 := same_upd (o := HO.lst (eNames.map V.str)) nm3
    have hkm := (st1.trans (st2.trans st3)) _ _ hk
    obtain ⟨p1, p2, p3, p4⟩ := eName_plain i hi
    refine ⟨_, rfl, .inl ⟨rfl, _, SqL.of hkm⟩, l4, _, .bl true, i, .bl (decide (i = i)), rfl, rfl, SqL.of hkm, rfl, kinds_flat i, kinds_at e15.lt, by simp [eqV], fun m z hm hz2 => ?_, m3, eNames.map V.str, (i : Nat), _, rfl, rfl, SqL.of upd_same, atI_nat (eName_at e15.lt), ?_⟩
    · rw [kinds_at (by omega)] at hz2
      obtain rfl := Option.some.inj hz2
      rw [decide_eq_false (by omega)]
      rfl
    refine ⟨_, rfl, rfl, _, rfl, ?_⟩
    rw [decide_eq_false fun z => p1 (V.str.inj z)]
    refine iteF ⟨_, rfl, rfl, _, rfl, ?_⟩
    rw [decide_eq_false fun z => p2 (V.str.inj z)]
    refine iteF ⟨_, rfl, _, rfl, (by show 2 ≤ sizeLine; decide), fun m4 nm4 => ⟨m4, _, rfl, .inl (SqL.of upd_same), rfl, rfl, _, rfl, ?_⟩⟩
    have ev : inV (.str (eName i)) [.str "code", .str "operation"] = false := by
      unfold inV
      rw [List.any_cons, List.any_cons, List.any_nil]
      show ((("code" : Str) == eName i) || ((("operation" : Str) == eName i) || false)) = false
      rw [beq_eq_false_iff_ne.mpr (Ne.symm p3), beq_eq_false_iff_ne.mpr (Ne.symm p4)]
      rfl
    rw [ev]
    have st4 := same_upd (o := HO.lst [.str "code", .str "operation"]) nm4
    exact iteF ⟨(by show 2 ≤ sizeLine; decide), fun u nu => hq u _ (sm4.trans (st1.trans (st2.trans (st3.trans (st4.trans (same_upd nu)))))) upd_same⟩
  · refine ⟨fun cls d H' => ∃ D i, cls = .ref D ∧ d = none ∧ Err15 X.K CP c D i ∧ i < 11 ∧ ∀ u H'', Same H' H'' → H'' u = some (.tup [.str (eName i), .int 0]) → Q (.ref u) H'', fun cls d σ' H' hx => ?_, rfl, h⟩
    obtain ⟨D, i, rfl, rfl, e15, hi, hq⟩ := hx
    exact ⟨true, e15.ex, fun _ a _ => ⟨D, i, rfl, rfl, e15, hi, ⟨_, rfl⟩, hq⟩, fun z => by cases z⟩
theorem err_gives {q : Str} {g CP : Addr} {cdg : Value} {c : Nat → Addr} {k : Nat} (M : ErrM X.mg CP c) (B : Blt X.mg) (hr : Room (k + 2) X.A) :
    GivesTo X N_l_error_of "_law_error_of" (defScope s_l_error_of) g cdg (defBody s_l_error_of) "_law_call" q (TTerr X.K CP c) := by
  intro f c' s H Q tl act hc h
  exact err_core M B hr (tl := fun E HZ Q' => HZ c' = some (CodeO c' q) ∧ tl E HZ Q') (fun W pn xe E p1 p2 tk hW => act W pn xe E p1 p2 tk hW) ⟨hc, h⟩
end
/-! ### what the end tells of the error classes -/
section
variable {K : PySem.W.Frag}
theorem kit_mk {t c : Addr} {b : Bool} (h1 : PySem.W.isClsIn K c = true) (h2 : PySem.W.typeIn K (.ref c) = some (.type "type")) (h3 : PySem.W.subIn K (.ref t) (.ref c) = some b) (h4 : b = true ∨ t ≠ c) : PySem.W.kitOne K (.ref t) (.ref c) = some b := by
  unfold PySem.W.kitOne
  by_cases e : (Value.ref t == Value.ref c) = true
  · rw [if_pos e]
    rcases h4 with z | z
    · rw [z]
    · exact absurd (by simpa using e) z
  · rw [if_neg e]
    have e2 : ((PySem.W.clsIn K c).isSome && PySem.W.typeIn K (.ref c) == some (.type "type")) = true := by
      have h1' : (PySem.W.clsIn K c).isSome = true := h1
      rw [h1', h2] <;> rfl
    show (if ((PySem.W.clsIn K c).isSome && PySem.W.typeIn K (.ref c) == some (.type "type")) = true then PySem.W.subIn K (.ref t) (.ref c) else none) = some b
    rw [if_pos e2]
    exact h3
theorem kit_ve {t : Addr} (h : PySem.W.subIn K (.ref t) (.type "ValueError") = some true) : PySem.W.kitOne K (.ref t) (.type "ValueError") = some true := by
  unfold PySem.W.kitOne
  rw [if_neg (by simp)]
  show (if PySem.W.kitMeta "ValueError" = true then PySem.W.subIn K (.ref t) (.type "ValueError") else none) = some true
  rw [if_pos (by decide +kernel)]
  exact h
theorem exm_mk {t c : Addr} (h0 : PySem.W.subIn K (.ref c) (.type "BaseException") = some true) (h1 : PySem.W.isClsIn K c = true) (h2 : PySem.W.typeIn K (.ref c) = some (.type "type")) (h3 : PySem.W.subIn K (.ref t) (.ref c) = some true) : PySem.W.exmOne K (.ref t) (.ref c) = some true := by
  have e1 : (PySem.W.subIn K (.ref c) (.type "BaseException") == some true) = true := by rw [h0] <;> rfl
  have e2 : ((PySem.W.clsIn K c).isSome && PySem.W.typeIn K (.ref c) == some (.type "type")) = true := by
    have h1' : (PySem.W.clsIn K c).isSome = true := h1
    rw [h1', h2] <;> rfl
  show (if (PySem.W.subIn K (.ref c) (.type "BaseException") == some true) = true then (if ((PySem.W.clsIn K c).isSome && PySem.W.typeIn K (.ref c) == some (.type "type")) = true then PySem.W.subIn K (.ref t) (.ref c) else none) else none) = some true
  rw [if_pos e1, if_pos e2]
  exact h3
theorem err15_mk {CP D : Addr} {c : Nat → Addr} {i : Nat} (lt : i < 15) (cl : ExcC K D) (ex : PySem.W.exmOne K (.ref D) (.ref CP) = some true) (ve : PySem.W.subIn K (.ref D) (.type "ValueError") = some true) (self : c i = D)
    (h : ∀ j, j < 15 → PySem.W.isClsIn K (c j) = true ∧ PySem.W.typeIn K (.ref (c j)) = some (.type "type") ∧ PySem.W.subIn K (.ref D) (.ref (c j)) = some (decide (j = i))) : Err15 K CP c D i := by
  refine ⟨lt, cl, ex, fun j hj => ?_, kit_ve ve⟩
  obtain ⟨h1, h2, h3⟩ := h j hj
  refine kit_mk h1 h2 h3 ?_
  by_cases e : j = i
  · exact .inl (decide_eq_true e)
  · refine .inr fun z => ?_
    obtain ⟨_, _, g⟩ := h i lt
    rw [self, decide_eq_true rfl] at g
    rw [← z, decide_eq_false e, g] at h3
    cases h3
end
/-! ### the errors as data -/
def errD2 (i : Nat) : PyData := .tuple [.str (eName i), .int 0]
theorem errD2_shaped : ∀ i, i < 15 → PySem.SeqAt.shaped (errD2 i) = true := by decide +kernel
theorem eqv_selfN {d : PyData} (h : PySem.SeqAt.shaped d = true) : (!PyData.eqv d d) = false := by rw [PySem.SeqAt.eqv_refl _ (PySem.SeqAt.canLay_of_shaped h)]; rfl
/-! ### a promise without errors among those with; one of two promises -/
section
variable {P : Program} {w : World} {K : PySem.W.Frag} {mg : Str → Option Value} {base : Heap}
theorem FnOk.up {k : Nat} {f : Addr} {fd : FuncData} {ps : List Str} {sp : Sp} (F : FnOk P w K mg base CX0 k f fd ps sp) : FnOk P w K mg base (L2.CX P w) k f fd ps sp :=
  ⟨F.len, fun A outer s H args us vs Q E hr he hb hv hs => PySem.codeAny_mono (F.run A outer s H args us vs Q E hr he hb hv hs) fun r s' h => by
    cases r with
    | ok z => cases z <;> exact h
    | error e => exact False.elim h⟩
theorem FnOk.or {CX : CXT} {k : Nat} {f : Addr} {fd : FuncData} {ps : List Str} {sp sp' : Sp} (F : FnOk P w K mg base CX k f fd ps sp) (G : FnOk P w K mg base CX k f fd ps sp') : FnOk P w K mg base CX k f fd ps (fun vs H Q E => sp vs H Q E ∨ sp' vs H Q E) :=
  ⟨fun vs H Q E h => h.elim (F.len vs H Q E) (G.len vs H Q E), fun A outer s H args us vs Q E hr he hb hv hs => hs.elim (F.run A outer s H args us vs Q E hr he hb hv) (G.run A outer s H args us vs Q E hr he hb hv)⟩
end
/-! ### an order's number of any kind -/
def spChkIxV (K : PySem.W.Frag) (D : Addr) : Sp := fun vs H _ E => ∃ (t : Addr) (v : V) (ts : List V), vs = [.ref t, v] ∧ H t = some (.tup ts) ∧ Kn K H v ∧ withinB v 0 ((ts.length : Int) - 1) = false ∧ E (.ref D) none H
section
variable {P : Program} {w : World} {K : PySem.W.Frag} {mg : Str → Option Value} {base : Heap}
theorem ok_chk_ixV {f D : Addr} {fd : FuncData} (F : Fun K "check_index" "check_index" s_check_index f fd) (B : Blt mg) (ER : ErrR K mg "UnknownOrder" D) (DW : Df P w K mg base "is_within" 2 P_is_within (spWithin K)) : FnOk P w K mg base (L2.CX P w) 3 f fd P_check_index (spChkIxV K D) := by
  obtain ⟨fW, fdW, gW, kW, bW, GW⟩ := DW
  refine F.okX sc_check_index (fun vs H Q E h => ?_) (fun cdv A outer s H vs Q E hr h => ?_)
  · obtain ⟨t, v, ts, rfl, _⟩ := h
    rfl
  · obtain ⟨t, v, ts, rfl, ht, hk, hw, q⟩ := h
    refine ⟨_, pss_one (ps_if (pt_not (pt_val (pe_call GW hr (by rfl) gW kW bW .nil pass0 (pa_cons (pv 1) (pa_cons pe_int (pa_cons (pe_op op_sub (pe_callB call_len_seq (by rfl) B.len PySem.boot_len (pa_cons (pv 0) pa_nil)) pe_int) pa_nil)))))) (pss_one (ps_raise rfl (takes_of rfl rfl rfl rfl) (pmk_err ER (by rfl)))) pss_nil), ?_⟩
    refine ⟨_, rfl, _, rfl, t, _, rfl, .inr (SqT.of ht), _, _, rfl, rfl, v, 0, ((ts.length : Int) - 1), rfl, hk, _, rfl, ?_⟩
    rw [hw]
    exact iteT q
end
/-! ### values of which it is known what kind they are of -/
inductive KnT (H : Hp) : V → Prop where
  | int {i : Int} : KnT H (.int i)
  | non : KnT H .non
  | bl {b : Bool} : KnT H (.bl b)
  | str {s : Str} : KnT H (.str s)
  | tup {a : Addr} {xs : List V} (h : H a = some (.tup xs)) : KnT H (.ref a)
theorem KnT.keep {H H' : Hp} {v : V} (h : KnT H v) (k : TupKeep H H') : KnT H' v := by
  cases h with
  | int => exact .int
  | non => exact .non
  | bl => exact .bl
  | str => exact .str
  | tup h => exact .tup (k _ _ h)
theorem KnT.kn {K : PySem.W.Frag} {H : Hp} {v : V} (h : KnT H v) : Kn K H v := by
  cases h with
  | int => exact .int
  | non => exact .inr ⟨.inr ⟨"NoneType", .base .non, by decide +kernel⟩, fun i z => by cases z⟩
  | bl => exact .inr ⟨.inl ⟨_, rfl⟩, fun i z => by cases z⟩
  | str => exact .inr ⟨.inr ⟨"str", .base (.str _), by decide +kernel⟩, fun i z => by cases z⟩
  | tup h => exact .inr ⟨.inr ⟨"tuple", .base (.tup h), by decide +kernel⟩, fun i z => by cases z⟩
theorem wN {i lo hi : Int} (c : hi < i) : withinB (.int i) lo hi = false := by
  show (decide (lo ≤ i) && decide (i ≤ hi)) = false
  rw [decide_eq_false (show ¬ i ≤ hi by omega), Bool.and_false]
theorem wZ {i lo hi : Int} (c : i < lo) : withinB (.int i) lo hi = false := by
  show (decide (lo ≤ i) && decide (i ≤ hi)) = false
  rw [decide_eq_false (show ¬ lo ≤ i by omega), Bool.false_and]
/-! ### cells that a callee may see: known objects in the abstract heap, for the time of a call -/
section
open PySem.Spec PyProof.Rows
/-- an object that is known as it stands -/
def Ex (o : Obj) : HO := .frz o (.ext fun _ => True)
abbrev Cells := List (Addr × Obj)
def rev (cs : Cells) (H : Hp) : Hp := fun b => match cs.lookup b with
  | some o => some (Ex o)
  | none => H b
def hid (cs : Cells) (H : Hp) : Hp := fun b => match cs.lookup b with
  | some _ => none
  | none => H b
variable {cs : Cells} {H H' H2 : Hp} {b : Addr} {o : Obj}
theorem rev_in (e : cs.lookup b = some o) : rev cs H b = some (Ex o) := by unfold rev; rw [e]
theorem rev_out (e : cs.lookup b = none) : rev cs H b = H b := by unfold rev; rw [e]
theorem hid_in (e : cs.lookup b = some o) : hid cs H b = none := by unfold hid; rw [e]
theorem hid_out (e : cs.lookup b = none) : hid cs H b = H b := by unfold hid; rw [e]
theorem ex_ne_ext {o : Obj} {φ : Heap → Prop} : Ex o ≠ .ext φ := fun z => by cases z
theorem ex_at {P : Program} {w : World} {h : Heap} (x : HOk P w H h) (e : H b = some (Ex o)) : h.get? b = some o := by
  have z : ObjOk P w H h b (.frz o (.ext fun _ => True)) := x b _ e
  exact z.1
theorem ex_ok {P : Program} {w : World} {h : Heap} (e : h.get? b = some o) : ObjOk P w H h b (Ex o) := ⟨e, trivial, ⟨o, e⟩, fun _ _ _ _ => trivial⟩
/-- which addresses the cells have, and that they are out of the way -/
structure Out (cs : Cells) (H : Hp) (h : Heap) : Prop where
  at_ : ∀ b o, cs.lookup b = some o → h.get? b = some o
  no : ∀ b o, cs.lookup b = some o → H b = none
theorem Out.notIn {h : Heap} (c : Out cs H h) {u : HO} (e : H b = some u) : cs.lookup b = none := by
  cases q : cs.lookup b with
  | none => rfl
  | some o => rw [c.no b o q] at e; cases e
theorem rev_hok {P : Program} {w : World} {h : Heap} (x : HOk P w H h) (c : Out cs H h) : HOk P w (rev cs H) h := fun b u e => by
  cases q : cs.lookup b with
  | some o =>
    rw [rev_in q] at e
    cases e
    exact ex_ok (c.at_ b o q)
  | none =>
    rw [rev_out q] at e
    exact (x b u e).stay (fun _ _ _ z => z) (fun d z => by rw [rev_out (c.notIn z)]; exact z) fun d xs z => by rw [rev_out (c.notIn z)]; exact z
/-- the cells are seen -/
def Seen (cs : Cells) (H : Hp) : Prop := ∀ b o, cs.lookup b = some o → H b = some (Ex o)
theorem Seen.notIn (c : Seen cs H) {u : HO} (e : H b = some u) (n : ∀ o, u ≠ Ex o) : cs.lookup b = none := by
  cases q : cs.lookup b with
  | none => rfl
  | some o =>
    rw [c b o q] at e
    exact absurd (Option.some.inj e).symm (n o)
theorem seen_rev : Seen cs (rev cs H) := fun b o e => rev_in e
theorem hid_hok {P : Program} {w : World} {h : Heap} (x : HOk P w H h) (c : Seen cs H) : HOk P w (hid cs H) h := fun b u e => by
  cases q : cs.lookup b with
  | some o => rw [hid_in q] at e; cases e
  | none =>
    rw [hid_out q] at e
    exact (x b u e).stay (fun _ _ _ z => z) (fun d z => by rw [hid_out (c.notIn z fun o y => by cases y)]; exact z) fun d xs z => by rw [hid_out (c.notIn z fun o y => by cases y)]; exact z
theorem Seen.un {fs ex : List Addr} {h h' : Heap} (c : Seen cs H) (u : Un fs ex H H' h h') : Seen cs H' := fun b o e => u.frzs _ _ _ (c b o e)
theorem rev_env0 {P : Program} {w : World} {K : PySem.W.Frag} {mg : Str → Option Value} {base : Heap} {A : Around} {outer : List Env} {s : Shared} (e0 : Env0 P w K mg base A outer s H) (c : Out cs H s.heap) (nb : ∀ b o, cs.lookup b = some o → base.get? b = none) (nf : ∀ b o, cs.lookup b = some o → b ∉ frs outer) :
    Env0 P w K mg base A outer s (rev cs H) where
  frames := e0.frames
  mod := e0.mod
  bs := fun b o e => by
    obtain ⟨h1, h2⟩ := e0.bs b o e
    refine ⟨h1, ?_⟩
    cases q : cs.lookup b with
    | some o' => rw [nb b o' q] at e; cases e
    | none => rw [rev_out q]; exact h2
  bsz := e0.bsz
  funs := e0.funs
  frf := fun b hb => by
    cases q : cs.lookup b with
    | some o' => exact absurd hb (nf b o' q)
    | none => rw [rev_out q]; exact e0.frf b hb
  hok := rev_hok e0.hok c
  bare := e0.bare
theorem hid_env0 {P : Program} {w : World} {K : PySem.W.Frag} {mg : Str → Option Value} {base : Heap} {A : Around} {outer : List Env} {s : Shared} (e0 : Env0 P w K mg base A outer s H) (c : Seen cs H) : Env0 P w K mg base A outer s (hid cs H) where
  frames := e0.frames
  mod := e0.mod
  bs := fun b o e => by
    obtain ⟨h1, h2⟩ := e0.bs b o e
    refine ⟨h1, ?_⟩
    cases q : cs.lookup b with
    | some o' => exact hid_in q
    | none => rw [hid_out q]; exact h2
  bsz := e0.bsz
  funs := e0.funs
  frf := fun b hb => by
    cases q : cs.lookup b with
    | some o' => exact hid_in q
    | none => rw [hid_out q]; exact e0.frf b hb
  hok := hid_hok e0.hok c
  bare := e0.bare
/-- behind a call that saw the cells -/
theorem ce_hid {P : Program} {w : World} {outer : List Env} {s s' : Shared} {Q : VK} {u : Value} (c : Out cs H s.heap) (nf : ∀ b o, cs.lookup b = some o → b ∉ frs outer) (h : CE outer P w (rev cs H) s (fun v H2 => Q v (hid cs H2)) u s') : CE outer P w H s Q u s' := by
  obtain ⟨v, H2, os, bare, un, hok, r, q⟩ := h
  have sn : Seen cs H2 := seen_rev.un un
  refine ⟨v, hid cs H2, os, bare, ⟨fun b o e n hb hx => ?_, fun b o e n hb hx => ?_, fun b o e n hx => ?_, fun b o e hx => un.there b o e hx, fun b xs e => ?_, fun b o y e => ?_, fun b ps e => ?_⟩, hid_hok hok sn, r, q⟩
  · cases z : cs.lookup b with
    | some o' =>
      rw [c.at_ b o' z] at e
      cases e
      exact ex_at hok (sn b _ z)
    | none => exact un.keep b o e (by rw [rev_out z]; exact n) hb hx
  · cases z : cs.lookup b with
    | some o' => exact absurd hb (nf b o' z)
    | none => exact un.slot b o e (by rw [rev_out z]; exact n) hb hx
  · cases z : cs.lookup b with
    | some o' => exact hid_in z
    | none =>
      rw [hid_out z]
      exact un.free b o e (by rw [rev_out z]; exact n) hx
  · have z := c.notIn e
    rw [hid_out z]
    exact un.tups b xs (by rw [rev_out z]; exact e)
  · have z := c.notIn e
    rw [hid_out z]
    exact un.frzs b o y (by rw [rev_out z]; exact e)
  · have z := c.notIn e
    rw [hid_out z]
    exact un.tbls b ps (by rw [rev_out z]; exact e)
/-- behind a body that owns the cells -/
theorem un_rev {fs : List Addr} {h h' : Heap} (c : Seen cs H) (u : Un fs [] (hid cs H) H' h h') : Un fs [] H (rev cs H') h h' := by
  have no : ∀ {b : Addr}, H b = none → cs.lookup b = none := fun {b} n => by
    cases z : cs.lookup b with
    | none => rfl
    | some o => rw [c b o z] at n; cases n
  refine ⟨fun b o e n hb hx => ?_, fun b o e n hb hx => ?_, fun b o e n hx => ?_, fun b o e hx => u.there b o e hx, fun b xs e => ?_, fun b o y e => ?_, fun b ps e => ?_⟩
  · exact u.keep b o e (by rw [hid_out (no n)]; exact n) hb hx
  · exact u.slot b o e (by rw [hid_out (no n)]; exact n) hb hx
  · rw [rev_out (no n)]
    exact u.free b o e (by rw [hid_out (no n)]; exact n) hx
  · have z := c.notIn e fun o y => by cases y
    rw [rev_out z]
    exact u.tups b xs (by rw [hid_out z]; exact e)
  · cases z : cs.lookup b with
    | some o' =>
      rw [c b o' z] at e
      rw [rev_in z]
      exact e
    | none =>
      rw [rev_out z]
      exact u.frzs b o y (by rw [hid_out z]; exact e)
  · have z := c.notIn e fun o y => by cases y
    rw [rev_out z]
    exact u.tbls b ps (by rw [hid_out z]; exact e)
theorem out_un {fs : List Addr} {P : Program} {w : World} {h h' : Heap} (hok : HOk P w H h) (c : Seen cs H) (nf : ∀ b o, cs.lookup b = some o → b ∉ fs) (u : Un fs [] (hid cs H) H' h h') : Out cs H' h' :=
  ⟨fun b o e => u.keep b o (ex_at hok (c b o e)) (hid_in e) (nf b o e) (by simp), fun b o e => u.free b o (ex_at hok (c b o e)) (hid_in e) (by simp)⟩
theorem ce_rev {P : Program} {w : World} {outer : List Env} {s s' : Shared} {Q : VK} {u : Value} (hok : HOk P w H s.heap) (c : Seen cs H) (nf : ∀ b o, cs.lookup b = some o → b ∉ frs outer) (h : CE outer P w (hid cs H) s (fun v H2 => Q v (rev cs H2)) u s') : CE outer P w H s Q u s' := by
  obtain ⟨v, H2, os, bare, un, hok2, r, q⟩ := h
  exact ⟨v, rev cs H2, os, bare, un_rev c un, rev_hok hok2 (out_un hok c nf un), r, q⟩
theorem cx_rev {P : Program} {w : World} {outer : List Env} {s s' : Shared} {E : XK} {u : Value} (hok : HOk P w H s.heap) (c : Seen cs H) (nf : ∀ b o, cs.lookup b = some o → b ∉ frs outer) (h : L2.CX P w outer (hid cs H) s (fun cls d H2 => E cls d (rev cs H2)) u s') : L2.CX P w outer H s E u s' := by
  obtain ⟨a, B, H2, cls, d, e0, fl, hok2, ub, na, os, ag, hE⟩ := h
  have no : ∀ {b : Addr}, H b = none → cs.lookup b = none := fun {b} n => by
    cases z : cs.lookup b with
    | none => rfl
    | some o => rw [c b o z] at n; cases n
  have atB : ∀ b o, cs.lookup b = some o → B.get? b = some o := fun b o e => ub.keep b o (ex_at hok (c b o e)) (hid_in e) (nf b o e)
  have out : Out cs H2 B := ⟨atB, fun b o e => ub.free b o (ex_at hok (c b o e)) (hid_in e)⟩
  have nk : cs.lookup a = none := by
    cases z : cs.lookup a with
    | none => rfl
    | some o =>
      have h1 := atB a o z
      rw [fl.2.1] at h1
      cases h1
  refine ⟨a, B, rev cs H2, cls, d, e0, fl, rev_hok hok2 out, ⟨fun b o e n hb => ?_, fun b o e hb => ub.slot b o e hb, fun b o e n => ?_, fun b o e hb => ub.there b o e hb, fun b xs e => ?_, fun b o y e => ?_, fun b ps e => ?_⟩, by rw [rev_out nk]; exact na, os, ag, hE⟩
  · exact ub.keep b o e (by rw [hid_out (no n)]; exact n) hb
  · rw [rev_out (no n)]
    exact ub.free b o e (by rw [hid_out (no n)]; exact n)
  · have z := c.notIn e fun o y => by cases y
    rw [rev_out z]
    exact ub.tups b xs (by rw [hid_out z]; exact e)
  · cases z : cs.lookup b with
    | some o' =>
      rw [c b o' z] at e
      rw [rev_in z]
      exact e
    | none =>
      rw [rev_out z]
      exact ub.frzs b o y (by rw [hid_out z]; exact e)
  · have z := c.notIn e fun o y => by cases y
    rw [rev_out z]
    exact ub.tbls b ps (by rw [hid_out z]; exact e)
/-! what the law's proof needs of them -/
theorem same_hid (n : ∀ b o, cs.lookup b = some o → H b = none) (s : Same (rev cs H) H') : Same H (hid cs H') := fun b u e => by
  have z : cs.lookup b = none := by
    cases q : cs.lookup b with
    | none => rfl
    | some o => rw [n b o q] at e; cases e
  rw [hid_out z]
  exact s b u (by rw [rev_out z]; exact e)
theorem same_rev (c : Seen cs H') (s : Same (hid cs H') H2) : Same H' (rev cs H2) := fun b u e => by
  cases q : cs.lookup b with
  | some o =>
    rw [c b o q] at e
    rw [rev_in q]
    exact e
  | none =>
    rw [rev_out q]
    exact s b u (by rw [hid_out q]; exact e)
theorem Seen.same (c : Seen cs H) (s : Same H H') : Seen cs H' := fun b o e => s _ _ (c b o e)
theorem rev_up {cs : Cells} {b : Addr} {u : HO} (no : ∀ b o, cs.lookup b = some o → H b = none) (e : H b = some u) : rev cs H b = some u := by
  have z : cs.lookup b = none := by
    cases w : cs.lookup b with
    | none => rfl
    | some o => rw [no b o w] at e; cases e
  rw [rev_out z]
  exact e
end
/-! ### lambdas as values -/
section
open PySem.Spec PyProof.Rows
open LamX (lamEnv lamCx CodeO Tabs TabS ExtN TabB)
/-- the names of a lambda: no cell of its own; its parameters are not names of the maker -/
structure LamSc (N : List Str) (sc scope : Scope) : Prop where
  kind : scope.kind = .function
  co : scope.isCoroutine = false
  gen : scope.isGenerator = false
  own : ∀ y ∈ scope.names, y.2 ≠ .cell ∧ (y.2 = .local → y.1 ∉ N)
  free : ∀ y ∈ scope.names, y.2 = .free → sc.names.lookup y.1 = some .cell ∨ sc.names.lookup y.1 = some .free
def lamScB (N : List Str) (sc scope : Scope) : Bool :=
  decide (scope.kind = .function) && !scope.isCoroutine && !scope.isGenerator && scope.names.all fun y => !decide (y.2 = .cell) && (!decide (y.2 = .local) || decide (y.1 ∉ N)) && (!decide (y.2 = .free) || decide (sc.names.lookup y.1 = some .cell) || decide (sc.names.lookup y.1 = some .free))
theorem lamSc_by {N : List Str} {sc scope : Scope} (h : lamScB N sc scope = true) : LamSc N sc scope := by
  unfold lamScB at h
  simp only [Bool.and_eq_true, Bool.or_eq_true, Bool.not_eq_true', decide_eq_true_eq, decide_eq_false_iff_not, List.all_eq_true] at h
  obtain ⟨⟨⟨h1, h2⟩, h3⟩, h4⟩ := h
  refine ⟨h1, h2, h3, fun y hy => ⟨(h4 y hy).1.1, fun e => ?_⟩, fun y hy e => ?_⟩
  · rcases (h4 y hy).1.2 with z | z
    · exact absurd e z
    · exact z
  · rcases (h4 y hy).2 with (z | z) | z
    · exact absurd e z
    · exact .inl z
    · exact .inr z
/-- the cells of the maker's frame, as they stand -/
structure CellsFit (X : Cx) (σ : L2.St) (cs : Cells) : Prop where
  all : ∀ x c, X.env.cells.lookup x = some c → ∃ o v, cs.lookup c = some o ∧ o.data = .cell v
  val : ∀ (i : Nat) x v, X.N[i]? = some x → σ[i]? = some (some v) → Vis X.env.scope x → X.env.kindOf x ≠ some .local → ∃ c o u, X.env.cells.lookup x = some c ∧ cs.lookup c = some o ∧ o.data = .cell (some u) ∧ RelV v u
  inj : ∀ x y c, X.env.cells.lookup x = some c → X.env.cells.lookup y = some c → x = y
  has : ∀ x, (X.env.kindOf x = some .cell ∨ X.env.kindOf x = some .free) → ∃ c, X.env.cells.lookup x = some c
  len : σ.length = X.N.length
theorem lookup_fm {α β : Type} [BEq α] [LawfulBEq α] {g : Str → Option (α × β)} {v : α → Option β} (hg : ∀ x p, g x = some p → v p.1 = some p.2) : ∀ (l : List Str) (a : α) (b : β), (l.filterMap g).lookup a = some b → v a = some b ∧ ∃ x ∈ l, g x = some (a, b)
  | [], _, _, h => by cases h
  | x :: l, a, b, h => by
    cases q : g x with
    | none =>
      rw [List.filterMap_cons, q] at h
      obtain ⟨h1, y, hy, h2⟩ := lookup_fm hg l a b h
      exact ⟨h1, y, List.mem_cons_of_mem _ hy, h2⟩
    | some p =>
      obtain ⟨a', b'⟩ := p
      rw [List.filterMap_cons, q] at h
      by_cases e : a = a'
      · subst e
        have hb : (a == a) = true := beq_self_eq_true a
        rw [List.lookup_cons, hb] at h
        cases h
        exact ⟨hg x _ q, x, List.mem_cons_self, q⟩
      · have hb : (a == a') = false := beq_eq_false_iff_ne.mpr e
        rw [List.lookup_cons, hb] at h
        obtain ⟨h1, y, hy, h2⟩ := lookup_fm hg l a b h
        exact ⟨h1, y, List.mem_cons_of_mem _ hy, h2⟩
theorem lookup_fm_has {α β : Type} [BEq α] [LawfulBEq α] {g : Str → Option (α × β)} {v : α → Option β} (hg : ∀ x p, g x = some p → v p.1 = some p.2) : ∀ (l : List Str) (x : Str) (a : α) (b : β), x ∈ l → g x = some (a, b) → (l.filterMap g).lookup a = some b
  | [], _, _, _, h, _ => by cases h
  | y :: l, x, a, b, h, e => by
    have hv := hg x _ e
    have go : x ∈ l → (l.filterMap g).lookup a = some b := fun hm => lookup_fm_has hg l x a b hm e
    cases q : g y with
    | none =>
      rw [List.filterMap_cons, q]
      rcases List.mem_cons.mp h with rfl | hm
      · rw [q] at e; cases e
      · exact go hm
    | some p =>
      obtain ⟨a', b'⟩ := p
      rw [List.filterMap_cons, q]
      by_cases ea : a = a'
      · subst ea
        have hb : (a == a) = true := beq_self_eq_true a
        rw [List.lookup_cons, hb]
        have h2 : v a = some b' := hg y _ q
        exact h2.symm.trans hv
      · have hb : (a == a') = false := beq_eq_false_iff_ne.mpr ea
        rw [List.lookup_cons, hb]
        rcases List.mem_cons.mp h with rfl | hm
        · rw [q] at e
          cases e
          exact absurd rfl ea
        · exact go hm
section
variable {X : Cx} {pins : List (Addr × Obj)} {σ : L2.St} {H : Hp} {s : Shared}
theorem cells_fit (I : Inv X pins σ H s) (hfn : ∀ x, X.fn x = true) : ∃ cs, CellsFit X σ cs ∧ Out cs H s.heap ∧ (∀ b o, cs.lookup b = some o → X.base.get? b = none) ∧ ∀ b o, cs.lookup b = some o → b ∉ frs X.stack := by
  let g : Str → Option (Addr × Obj) := fun x => (X.env.cells.lookup x).bind fun c => (s.heap.get? c).map fun o => (c, o)
  have hg : ∀ x p, g x = some p → s.heap.get? p.1 = some p.2 := fun x p e => by
    obtain ⟨c, _, e2⟩ := Option.bind_eq_some_iff.mp e
    obtain ⟨o, h1, h2⟩ := Option.map_eq_some_iff.mp e2
    rw [← h2]
    exact h1
  have key : ∀ b o, ((X.env.cells.map (·.1)).filterMap g).lookup b = some o → s.heap.get? b = some o ∧ ∃ x, X.env.cells.lookup x = some b := fun b o e => by
    obtain ⟨h1, x, _, h2⟩ := lookup_fm hg _ b o e
    obtain ⟨c, e1, e2⟩ := Option.bind_eq_some_iff.mp h2
    obtain ⟨o', _, h3⟩ := Option.map_eq_some_iff.mp e2
    cases h3
    exact ⟨h1, x, e1⟩
  have has : ∀ x c o, X.env.cells.lookup x = some c → s.heap.get? c = some o → ((X.env.cells.map (·.1)).filterMap g).lookup c = some o := fun x c o e1 e2 =>
    lookup_fm_has hg _ x c o (List.mem_map.mpr ⟨(x, c), PySem.mem_of_lookup e1, rfl⟩) (by show (X.env.cells.lookup x).bind _ = _; rw [e1]; show (s.heap.get? c).map _ = _; rw [e2]; rfl)
  have low : ∀ b o, ((X.env.cells.map (·.1)).filterMap g).lookup b = some o → X.s_0.heap.objs.size ≤ b := fun b o e => by
    obtain ⟨_, x, e1⟩ := key b o e
    exact I.ok.cab x b (hfn x) e1
  refine ⟨_, ⟨fun x c e => ?_, fun i x v e1 e2 e3 e4 => ?_, I.ok.inj, I.ok.has, I.len⟩, ⟨fun b o e => (key b o e).1, fun b o e => ?_⟩, fun b o e => ?_, fun b o e hm => ?_⟩
  · obtain ⟨v, o, h1, h2⟩ := I.cell x c e
    exact ⟨o, v, has x c o e h1, h2⟩
  · obtain ⟨m, _, hl⟩ := I.loc
    obtain ⟨u, r, lk⟩ := hl i x v e1 e2 e3
    rcases lk with ⟨k, _⟩ | ⟨_, c, h1, o, h2, h3⟩
    · exact absurd k e4
    · exact ⟨c, o, u, h1, has x c o h1 h2, h3, r⟩
  · obtain ⟨_, x, e1⟩ := key b o e
    exact I.freeC x b e1
  · cases q : X.base.get? b with
    | none => rfl
    | some o' => exact absurd (Nat.lt_of_lt_of_le (Heap.lt_size q) (Nat.le_trans I.ok.bsz (low b o e))) (Nat.lt_irrefl _)
  · obtain ⟨_, x, e1⟩ := key b o e
    rcases List.mem_cons.mp (I.stkSub b hm) with z | z
    · exact I.cne x b e1 z
    · obtain ⟨_, o', ho, _⟩ := I.ok.funs.mem z
      exact absurd (Nat.lt_of_lt_of_le (Heap.lt_size ho) (low b o e)) (Nat.lt_irrefl _)
end
end
section
open PySem.Spec PyProof.Rows
open LamX (lamEnv lamCx CodeO Tabs TabS ExtN TabB)
/-- what a call of the value at f does, as long as all that stands stays -/
structure LamVal (P : Program) (w : World) (K : PySem.W.Frag) (mg : Str → Option Value) (base : Heap) (j : Nat) (H : Hp) (f : Addr) (tl : XK → Hp → VK → Prop) : Prop where
  ob : ∃ a b c d, H f = some (Ex ⟨a, b, .func c, d⟩)
  run : ∀ (A : Around) (outer : List Env) (s : Shared) (H' : Hp) (Q : VK) (E : XK), Room j A → Env0 P w K mg base A outer s H' → Same H H' → tl E H' Q → codeAny (model P w) A (.call (.ref f) ⟨[], []⟩) (CR (L2.CX P w) outer P w H' s Q E) s
theorem LamVal.same {P : Program} {w : World} {K : PySem.W.Frag} {mg : Str → Option Value} {base : Heap} {j : Nat} {H H1 : Hp} {f : Addr} {tl : XK → Hp → VK → Prop} (L : LamVal P w K mg base j H f tl) (s : Same H H1) : LamVal P w K mg base j H1 f tl :=
  ⟨let ⟨a, b, c, d, e⟩ := L.ob; ⟨a, b, c, d, s _ _ e⟩, fun A outer st H' Q E hr e0 s' => L.run A outer st H' Q E hr e0 (s.trans s')⟩
abbrev lamObj (X : Cx) (params : Arguments) (body : Expr) (scope : Scope) (dV doc pm : Value) (c' : Addr) (ctv : Value) : Obj :=
  PySem.W.kdv_obj "<lambda>" (X.env.qual ++ "<lambda>") params (.expr body) scope (cloFrom X.env.cells scope.names []) dV doc pm c' ctv
section
variable {X : Cx} {cs : Cells} {σ : L2.St} {H : Hp} {s : Shared}
theorem lamv_start {A : Around} {outer : List Env} {E : XK} {scope : Scope} {f c' : Addr} {h₁ : Heap} {tk : Nat} {binds : List (Str × Value)} (fit : CellsFit X σ cs) (L : LamSc X.N X.env.scope scope) (e0 : Env0 X.prog X.w X.K X.mg X.base A outer s H) (sn : Seen cs H) (hd : A.handled = none)
    (hns : h₁.Ns s.heap.objs.size fun y => binds.reverse.lookup y) (kp : ∀ b o, s.heap.get? b = some o → h₁.get? b = some o) :
    Inv (lamCx X A outer s (hid cs H) E scope f c') [] σ (hid cs H) { s with heap := h₁, toks := tk } := by
  have d0 := hid_env0 e0 sn
  have free : ∀ {y : Str}, scope.names.lookup y = some .free → ∃ c, (cloFrom X.env.cells scope.names []).lookup y = some c := fun {y} e => mem_lookup (cloFrom_has (cells := X.env.cells) (acc := []) (PySem.mem_of_lookup e))
  have back : ∀ {y : Str} {c : Addr}, (cloFrom X.env.cells scope.names []).lookup y = some c → X.env.cells.lookup y = some c := fun {y c} e => by
    rcases cloFrom_mem (PySem.mem_of_lookup e) with z | ⟨z1, z2⟩
    · cases z
    · obtain ⟨c1, h1⟩ : ∃ c, X.env.cells.lookup y = some c := (L.free _ z1 rfl).elim (fun k => fit.has y (.inl k)) fun k => fit.has y (.inr k)
      rw [z2, h1]
      rfl
  have cell : ∀ {b : Addr} {o : Obj} {v : Option Value}, cs.lookup b = some o → o.data = .cell v → h₁.IsCell b v := fun {b o v} e d => ⟨o, kp _ _ (ex_at e0.hok (sn b o e)), d⟩
  have none_ : ∀ {b : Addr}, b ∈ ([] : List Addr) → False := fun z => nomatch z
  refine ⟨⟨d0.mod, L.kind, rfl, rfl, Nat.le_refl _, fun y z c e1 e2 => fit.inj y z c (back e1) (back e2), fun y hy => ?_, fun y c z _ => (nomatch (show false = true from z)), fun _ => hd, Around.frames_deeper d0.frames, .inr ⟨rfl, rfl⟩, fun b z => (none_ z).elim, d0.bs, d0.bsz, fun b _ _ z => none_ z, fun b z => (none_ z).elim, d0.funs, d0.frf⟩,
    rfl, d0.bare, Un.kept kp, ⟨_, hns, fun i y v e1 e2 e3 => ?_⟩, fun y c e => ?_, d0.hok.fresh (Nat.le_refl _), fun y c e => ?_, fun q hq => (nomatch (show q ∈ ([] : List (Addr × Obj)) ++ [] from hq)), d0.hok.kept kp, fit.len⟩
  · have hy : scope.names.lookup y = some .cell ∨ scope.names.lookup y = some .free := hy
    rcases hy with hy | hy
    · exact absurd rfl (L.own _ (PySem.mem_of_lookup hy)).1
    · exact free hy
  · have e3 : Vis scope y := e3
    rcases e3 with k | k | k
    · exact absurd (List.mem_of_getElem? e1) ((L.own _ (PySem.mem_of_lookup k)).2 rfl)
    · exact absurd rfl (L.own _ (PySem.mem_of_lookup k)).1
    · have kf := L.free _ (PySem.mem_of_lookup k) rfl
      have vis : Vis X.env.scope y := .inr kf
      have nl : X.env.kindOf y ≠ some .local := fun z => by
        have z : X.env.scope.names.lookup y = some .local := z
        rcases kf with q | q <;> rw [show X.env.scope.names.lookup y = _ from q] at z <;> cases z
      obtain ⟨c, o, u, h1, h2, h3, r⟩ := fit.val i y v e1 e2 vis nl
      obtain ⟨c2, h4⟩ := free k
      obtain rfl : c2 = c := Option.some.inj ((back h4).symm.trans h1)
      exact ⟨u, r, .inr ⟨.inr k, c2, h4, cell h2 h3⟩⟩
  · obtain ⟨o, v, h1, h2⟩ := fit.all y c (back e)
    exact ⟨v, cell h1 h2⟩
  · obtain ⟨o, v, h1, h2⟩ := fit.all y c (back e)
    exact hid_in h1
theorem lamv_run {k : Nat} {params : Arguments} {body : Expr} {scope : Scope} {f c' : Addr} {dV doc pm ctv : Value} {t : XK → TE} {A : Around} {outer : List Env} {Q : VK} {E : XK} (fit : CellsFit X σ cs) (L : LamSc X.N X.env.scope scope)
    (hbody : ∀ (A : Around) (outer : List Env) (s : Shared) (H : Hp) (E : XK) (f c' : Addr), Room k (A.deeper (lamEnv X scope s.heap.objs.size f c')) → PE (lamCx X A outer s H E scope f c') body (t E))
    (hr : Room (k + 1) A) (e0 : Env0 X.prog X.w X.K X.mg X.base A outer s H) (sn : Seen cs H) (hf : H f = some (Ex (lamObj X params body scope dV doc pm c' ctv))) (hc : H c' = some (CodeO c' (X.env.qual ++ "<lambda>")))
    (hb : ∃ binds, BindsTo s (PySem.W.kdv_fn "<lambda>" (X.env.qual ++ "<lambda>") params (.expr body) scope (cloFrom X.env.cells scope.names []) dV doc pm (.ref c') ctv) ⟨[], []⟩ binds ∧ ∀ y ∈ binds, scope.names.lookup y.1 = some .local)
    (h : t (fun cls d H2 => E cls d (rev cs H2)) σ (hid cs H) fun v H2 => Q v (rev cs H2)) :
    codeAny (model X.prog X.w) A (.call (.ref f) ⟨[], []⟩) (CR (L2.CX X.prog X.w) outer X.prog X.w H s Q E) s := by
  obtain ⟨binds, bt, bl⟩ := hb
  obtain ⟨⟨oc, vs, tq, h1, h2, h3⟩, _, _⟩ := e0.hok c' _ hc
  have nf : ∀ b o, cs.lookup b = some o → b ∉ frs outer := fun b o e z => by
    have q := e0.frf b z
    rw [sn b o e] at q
    cases q
  have rc : codeAny (model X.prog X.w) A (.call (.ref f) ⟨[], []⟩) (CR (L2.CX X.prog X.w) outer X.prog X.w (hid cs H) s (fun v H2 => Q v (rev cs H2)) fun cls d H2 => E cls d (rev cs H2)) s := by
    refine PySem.W.kla_callFunE hr.depth (ex_at e0.hok hf) rfl L.co L.gen rfl ⟨c', oc, vs, tq, rfl, h1, h2, h3⟩ (bt _ _ _ _ ?_)
    refine wpAny_newFunctionEnv (fun y hy => (L.own y hy).1) bl (fun h₁ hns sb => ⟨?_, ?_⟩) L.kind
    · exact (e0.mod.nolimit.keeps fun b o e => (e0.bs b o e).1).fresh _ sb
    show codeAny _ _ (.expr body (lamEnv X scope s.heap.objs.size f c')) _ _
    have kp : ∀ b o, s.heap.get? b = some o → h₁.get? b = some o := fun b o e => sb.extBut b o (Nat.ne_of_lt (Heap.lt_size e)) (Heap.get?_push_of_some _ e)
    have J := lamv_start (E := fun cls d H2 => E cls d (rev cs H2)) (scope := scope) (f := f) (c' := c') (tk := s.toks + binds.length) fit L e0 sn hr.hd hns kp
    refine PySem.W.kla_codeExpr (wpAny_mono ((hbody A outer s (hid cs H) _ f c' (hr.deeper _)).run [] _ _ (hid cs H) _ J h) (fun v s' hq => ?_) fun e s' hq => hq)
    obtain ⟨x, H2, J2, rv, q⟩ := hq
    exact ⟨x, H2, J2.os, J2.bare, J2.base, J2.hok, rv, q⟩
  refine codeAny_mono rc fun r s' hq => ?_
  cases r with
  | error e => exact cx_rev e0.hok sn nf hq
  | ok fl =>
    cases fl with
    | ret u => exact ce_rev e0.hok sn nf hq
    | next => exact False.elim hq
    | brk => exact False.elim hq
    | cont => exact False.elim hq
end
/-- x(), x a name that holds such a value -/
theorem pe_callLV {X : Cx} {j i : Nat} {H0 : Hp} {f : Addr} {tl : XK → Hp → VK → Prop} {E : XK} {a : Str} {p1 p2 : Pos} (L : LamVal X.prog X.w X.K X.mg X.base j H0 f tl) (hr : Room j X.A) (hx : Passes (L2.CX X.prog X.w) X E) (hN : X.N[i]? = some a) (hv : Vis X.env.scope a)
    (hd : (a == ("__debug__" : Str)) = false := by decide) (hcd : (a == ("__classdict__" : Str)) = false := by decide) : PE X (.Call (.Name a p1) [] [] p2) fun σ H Q => σ[i]? = some (some (.ref f)) ∧ Same H0 H ∧ tl E H Q := by
  refine ⟨fun pins s σ H Q I h => ?_⟩
  obtain ⟨hs, sm, ht⟩ := h
  refine wpAny_Call_Name_kw (thn ((pe_var (pos := p1) (i := i) hN hv hd hcd).run pins s σ H (fun v H1 => v = .ref f ∧ H1 = H) I ⟨.ref f, hs, rfl, rfl⟩) fun u s1 ⟨v, H1, I1, r1, e1, e2⟩ => ?_)
  subst e1 e2
  obtain rfl : u = Value.ref f := r1
  obtain ⟨o1, o2, o3, o4, ob⟩ := L.ob
  refine PySem.W.callWith_F0 ⟨_, _, _, _, ex_at I1.hok (sm _ _ ob)⟩ (wpAny_call (codeAny_mono (L.run X.A X.stack s1 H1 Q E hr I1.env0 sm ht) fun r s' hq => ?_))
  cases r with
  | error e => exact hx pins σ H1 s1 e s' I1 hq
  | ok fl =>
    cases fl with
    | ret u => exact I1.after hq
    | next => exact False.elim hq
    | brk => exact False.elim hq
    | cont => exact False.elim hq
end
section
open PySem.Spec PyProof.Rows
open LamX (lamEnv lamCx CodeO Tabs TabS ExtN TabB)
def Still : HO → Prop
  | .lst _ => False
  | .ins _ _ _ => False
  | .tbl _ => False
  | .dK _ => False
  | .dT _ => False
  | .set _ _ => False
  | .own _ => False
  | _ => True
/-- the value at f is a lambda that was made in X; t: how its body reads -/
def LamS (X : Cx) (t : XK → TE) (k : Nat) (H : Hp) (f : Addr) : Prop := ∃ es : List (Addr × HO), (∀ p ∈ es, H p.1 = some p.2 ∧ Still p.2) ∧
  ∀ (σ : L2.St) (H' : Hp) (cs : Cells), CellsFit X σ cs → (∀ b o, cs.lookup b = some o → H' b = none) → (∀ p ∈ es, H' p.1 = some p.2) →
    LamVal X.prog X.w X.K X.mg X.base (k + 1) (rev cs H') f fun E H2 Q => t (fun cls d H3 => E cls d (rev cs H3)) σ (hid cs H2) fun v H3 => Q v (rev cs H3)
section
variable {X : Cx} {pins : List (Addr × Obj)} {σ : L2.St} {H H' : Hp} {s : Shared} {t : XK → TE} {k : Nat} {f : Addr}
theorem LamS.keep (L : LamS X t k H f) (h : ∀ b o, H b = some o → Still o → H' b = some o) : LamS X t k H' f := by
  obtain ⟨es, h1, h2⟩ := L
  exact ⟨es, fun p hp => ⟨h _ _ (h1 p hp).1 (h1 p hp).2, (h1 p hp).2⟩, h2⟩
theorem LamS.same (L : LamS X t k H f) (s : Same H H') : LamS X t k H' f := L.keep fun b o e _ => s b o e
theorem LamS.extN (L : LamS X t k H f) (e : ExtN H H') : LamS X t k H' f := L.keep fun b o h n => e b o h fun ps z => by subst z; exact n
theorem LamS.but {d : Addr} {o : HO} (L : LamS X t k H f) (b : But d H H') (hd : H d = some o) (n : ¬ Still o) : LamS X t k H' f := L.keep fun a u e st => b a u (fun z => by
  rw [z, hd] at e
  cases e
  exact n st) e
theorem LamS.val (L : LamS X t k H f) {cs : Cells} (fit : CellsFit X σ cs) (no : ∀ b o, cs.lookup b = some o → H b = none) : LamVal X.prog X.w X.K X.mg X.base (k + 1) (rev cs H) f fun E H2 Q => t (fun cls d H3 => E cls d (rev cs H3)) σ (hid cs H2) fun v H3 => Q v (rev cs H3) := by
  obtain ⟨es, h1, h2⟩ := L
  exact h2 σ H cs fit no fun p hp => (h1 p hp).1
/-- the default's place: none, or a tuple of one nought -/
def DvAt (one : Bool) (dV : Value) (H : Hp) : Prop := if one = true then ∃ u, dV = .ref u ∧ H u = some (.tup [.int 0]) else dV = .none
/-- what binding a lambda's parameters asks: those that a call without arguments leaves -/
def DvBind (one : Bool) (params : Arguments) (body : Expr) (scope : Scope) : Prop := ∀ (q : Str) (cl : List (Str × Addr)) (dV doc pm cv ctv : Value) (s : Shared), (if one = true then ∃ u o tk n, dV = .ref u ∧ s.heap.get? u = some o ∧ o.data = .seq #[.int 0 tk] n else dV = .none) →
  ∃ binds, BindsTo s (PySem.W.kdv_fn "<lambda>" q params (.expr body) scope cl dV doc pm cv ctv) ⟨[], []⟩ binds ∧ ∀ y ∈ binds, scope.names.lookup y.1 = some .local
theorem lamS_mk {one : Bool} {params : Arguments} {body : Expr} {scope : Scope} {c' : Addr} {dV doc pm ctv : Value} (L : LamSc X.N X.env.scope scope) (hb : DvBind one params body scope)
    (hbody : ∀ (A : Around) (outer : List Env) (s : Shared) (H : Hp) (E : XK) (f c' : Addr), Room k (A.deeper (lamEnv X scope s.heap.objs.size f c')) → PE (lamCx X A outer s H E scope f c') body (t E))
    (hf : H f = some (Ex (lamObj X params body scope dV doc pm c' ctv))) (hc : H c' = some (CodeO c' (X.env.qual ++ "<lambda>"))) (hd : DvAt one dV H) : LamS X t k H f := by
  have fin : ∀ (es : List (Addr × HO)), (f, Ex (lamObj X params body scope dV doc pm c' ctv)) ∈ es → (c', CodeO c' (X.env.qual ++ "<lambda>")) ∈ es → (∀ H2 : Hp, (∀ p ∈ es, H2 p.1 = some p.2) → DvAt one dV H2) →
      ∀ (σ : L2.St) (H' : Hp) (cs : Cells), CellsFit X σ cs → (∀ b o, cs.lookup b = some o → H' b = none) → (∀ p ∈ es, H' p.1 = some p.2) →
        LamVal X.prog X.w X.K X.mg X.base (k + 1) (rev cs H') f fun E H2 Q => t (fun cls d H3 => E cls d (rev cs H3)) σ (hid cs H2) fun v H3 => Q v (rev cs H3) := fun es m1 m2 m3 σ H' cs fit no hes => by
    have up : ∀ p ∈ es, rev cs H' p.1 = some p.2 := fun p hp => by
      have z : cs.lookup p.1 = none := by
        cases q : cs.lookup p.1 with
        | none => rfl
        | some o =>
          have h1 := hes p hp
          rw [no _ _ q] at h1
          cases h1
      rw [rev_out z]
      exact hes p hp
    refine ⟨⟨_, _, _, _, up _ m1⟩, fun A outer s H2 Q E hr e0 sm h => ?_⟩
    have e2 : ∀ p ∈ es, H2 p.1 = some p.2 := fun p hp => sm _ _ (up p hp)
    refine lamv_run fit L hbody hr e0 (seen_rev.same sm) (e2 _ m1) (e2 _ m2) (hb _ _ _ _ _ _ _ s ?_) h
    have dv := m3 H2 e2
    unfold DvAt at dv
    cases one with
    | false =>
      rw [if_neg Bool.false_ne_true] at dv ⊢
      exact dv
    | true =>
      rw [if_pos rfl] at dv ⊢
      obtain ⟨u, rfl, hu⟩ := dv
      obtain ⟨_, its, rv, o, e, cl, n, dat⟩ := e0.hok u _ hu
      cases rv with
      | cons r rr =>
        cases rr
        obtain ⟨tk, rfl⟩ := r
        exact ⟨u, o, tk, n, rfl, e, dat⟩
  unfold DvAt at hd
  cases one with
  | false =>
    rw [if_neg Bool.false_ne_true] at hd
    refine ⟨[(f, Ex (lamObj X params body scope dV doc pm c' ctv)), (c', CodeO c' (X.env.qual ++ "<lambda>"))], fun p hp => ?_, fin _ (by simp) (by simp) fun _ _ => ?_⟩
    · rcases List.mem_cons.mp hp with rfl | hp
      · exact ⟨hf, trivial⟩
      · rw [List.mem_singleton.mp hp]
        exact ⟨hc, by unfold CodeO; exact trivial⟩
    · unfold DvAt
      rw [if_neg Bool.false_ne_true]
      exact hd
  | true =>
    rw [if_pos rfl] at hd
    obtain ⟨u, e, hu⟩ := hd
    refine ⟨[(f, Ex (lamObj X params body scope dV doc pm c' ctv)), (c', CodeO c' (X.env.qual ++ "<lambda>")), (u, .tup [.int 0])], fun p hp => ?_, fin _ (by simp) (by simp) fun H2 h2 => ?_⟩
    · rcases List.mem_cons.mp hp with rfl | hp
      · exact ⟨hf, trivial⟩
      · rcases List.mem_cons.mp hp with rfl | hp
        · exact ⟨hc, by unfold CodeO; exact trivial⟩
        · rw [List.mem_singleton.mp hp]
          exact ⟨hu, trivial⟩
    · unfold DvAt
      rw [if_pos rfl]
      exact ⟨u, e, h2 (u, .tup [.int 0]) (by simp)⟩
/-- the table has one code object more -/
theorem tabs_grow {T : List (Addr × Str)} {P c' : Addr} {q : Str} {ps : Array Value} {pos : Pos} (hT : Tabs T H) (hP : H P = some (.tbl ps)) (ht : TriplesOk ps.toList) (ha : ∀ (pos : Pos) (cv : Value), codeAmong pos ps.toList = some cv → ∃ c, cv = .ref c ∧ H c = some (CodeO c q)) (nC : H c' = none) (hu : ∀ p ∈ T, p.1 = P → p.2 = q) :
    Tabs T (L2.upd (L2.upd H P (.tbl (ps ++ #[rawInt pos.line, rawInt pos.col, .ref c']))) c' (CodeO c' q)) ∧ ExtN H (L2.upd (L2.upd H P (.tbl (ps ++ #[rawInt pos.line, rawInt pos.col, .ref c']))) c' (CodeO c' q)) := by
  have hE : ExtN H (L2.upd (L2.upd H P (.tbl (ps ++ #[rawInt pos.line, rawInt pos.col, .ref c']))) c' (CodeO c' q)) := fun b o e n => by
    have n1 : b ≠ P := fun z => by
      rw [z, hP] at e
      exact n ps (Option.some.inj e).symm
    rw [upd_ne (ne_of_none e nC), upd_ne n1]
    exact e
  have eL : (ps ++ #[rawInt pos.line, rawInt pos.col, .ref c']).toList = ps.toList ++ [rawInt pos.line, rawInt pos.col, .ref c'] := by simp
  refine ⟨fun p hp => ?_, hE⟩
  by_cases hb : p.1 = P
  · rw [hu p hp hb, hb]
    refine ⟨_, (upd_ne (ne_of_none hP nC)).trans upd_same, by rw [eL]; exact PySem.TriplesOk_snoc _ _ _ _ ht, fun p' cv hcv => ?_⟩
    rw [eL] at hcv
    rcases LamX.among_app _ ht hcv with z | z
    · obtain ⟨c0, e1, e2⟩ := ha p' cv z
      exact ⟨c0, e1, hE _ _ e2 LamX.codeO_ne⟩
    · exact ⟨c', z, upd_same⟩
  · obtain ⟨qs, a1, a2, a3⟩ := hT p hp
    refine ⟨qs, (upd_ne (ne_of_none a1 nC)).trans ((upd_ne hb).trans a1), a2, fun p' cv hcv => ?_⟩
    obtain ⟨c0, e1, e2⟩ := a3 p' cv hcv
    exact ⟨c0, e1, hE _ _ e2 LamX.codeO_ne⟩
/-- the lambda's object is made -/
theorem lamv_tail {T : List (Addr × Str)} {c P : Addr} {params : Arguments} {body : Expr} {scope : Scope} {pos : Pos} {dV : Value} {E : Value → Shared → Prop} {Q : Value → Shared → Prop} (I : Inv X pins σ H s) (TB : TabB X.base X.mg c P) (hcode : X.env.code = .ref c)
    (hm : (P, X.env.qual ++ "<lambda>") ∈ T) (hu : ∀ p ∈ T, p.1 = P → p.2 = X.env.qual ++ "<lambda>") (hT : Tabs T H) (L : LamSc X.N X.env.scope scope)
    (h : ∀ (f c' : Addr) (doc pm ctv : Value) (H1 : Hp) (s' : Shared), Inv X pins σ H1 s' → ExtN H H1 → Tabs T H1 → H1 f = some (Ex (lamObj X params body scope dV doc pm c' ctv)) → H1 c' = some (CodeO c' (X.env.qual ++ "<lambda>")) → Q (.ref f) s') :
    wpAny (model X.prog X.w) X.A (makeTail "<lambda>" (X.env.qual ++ "<lambda>") params (.expr body) scope X.env dV .none none pos pos.line) Q E s := by
  obtain ⟨ps, hP, ht, ha⟩ := hT _ hm
  have clo : closureFor scope X.env = pure (cloFrom X.env.cells scope.names []) := closure_ok fun y hy e => (L.free y hy e).elim (fun z => I.ok.has _ (.inl z)) fun z => I.ok.has _ (.inr z)
  have bP : s.heap.BuiltinsAt X.mg P := TB.bm.keeps I.bk
  have hP' : s.heap.get? P = some { cls := .none, data := .fields ps } := I.hok P _ hP
  cases hc : codeAmong pos ps.toList with
  | none =>
    refine PySem.W.kdv_makeTail (mg := X.mg) (c := c) (P := P) (ps := ps) clo I.ok.glob (I.mod.glob.keeps I.bk) hcode (TB.code.keeps I.bk) hP' ht hc TB.gP bP fun c' ctv doc h' tk hx hge hlt hrec htb => ?_
    obtain ⟨c2, oc, vs, t, e2, hoc, hd, hv⟩ := hrec
    cases e2
    have nC : H c' = none := I.hok.fresh hge
    have I1 := LamX.inv_table (t' := tk) (more := #[rawInt pos.line, rawInt pos.col, .ref c']) (q := X.env.qual ++ "<lambda>") I hP (fun b o hb e => hx b o hb e) htb hge ⟨oc, vs, t, hoc, hd, hv⟩
    obtain ⟨T1, E1⟩ := tabs_grow (pos := pos) hT hP ht ha nC hu
    have hc1 : (L2.upd (L2.upd H P (.tbl (ps ++ #[rawInt pos.line, rawInt pos.col, .ref c']))) c' (CodeO c' (X.env.qual ++ "<lambda>"))) c' = some (CodeO c' (X.env.qual ++ "<lambda>")) := upd_same
    generalize (L2.upd (L2.upd H P (.tbl (ps ++ #[rawInt pos.line, rawInt pos.col, .ref c']))) c' (CodeO c' (X.env.qual ++ "<lambda>"))) = H1 at I1 T1 E1 hc1
    have nF : H1 h'.objs.size = none := I1.hok.fresh (Nat.le_refl _)
    have sF := same_upd (o := Ex (lamObj X params body scope dV doc ((X.mg "__name__").getD .none) c' ctv)) nF
    have I2 := I1.laid (t' := tk) (a := h'.objs.size) (o := Ex (lamObj X params body scope dV doc ((X.mg "__name__").getD .none) c' ctv)) (h' := h'.push (lamObj X params body scope dV doc ((X.mg "__name__").getD .none) c' ctv)) (fun b o e => Heap.get?_push_of_some _ e) (Nat.le_refl _) (ex_ok (Heap.get?_push_size _ rfl))
    exact h _ c' doc _ ctv _ _ I2 (E1.trans (ExtN.of sF)) (LamX.Tabs.ext T1 sF) upd_same (sF _ _ hc1)
  | some cv =>
    obtain ⟨c', e, hco⟩ := ha pos cv hc
    subst e
    refine PySem.W.kdv_makeTailHit (mg := X.mg) (c := c) (P := P) (ps := ps) clo I.ok.glob (I.mod.glob.keeps I.bk) hcode (TB.code.keeps I.bk) hP' ht hc bP fun ctv doc h' tk hx hsz => ?_
    have I1 : Inv X pins σ H { s with heap := h', toks := tk } := I.kept hx
    have nF : H h'.objs.size = none := I1.hok.fresh (Nat.le_refl _)
    have sF := same_upd (o := Ex (lamObj X params body scope dV doc ((X.mg "__name__").getD .none) c' ctv)) nF
    have I2 := I1.laid (t' := tk) (a := h'.objs.size) (o := Ex (lamObj X params body scope dV doc ((X.mg "__name__").getD .none) c' ctv)) (h' := h'.push (lamObj X params body scope dV doc ((X.mg "__name__").getD .none) c' ctv)) (fun b o e => Heap.get?_push_of_some _ e) (Nat.le_refl _) (ex_ok (Heap.get?_push_size _ rfl))
    exact h _ c' doc _ ctv _ _ I2 (ExtN.of sF) (LamX.Tabs.ext hT sF) upd_same (sF _ _ hco)
def tLamV (X : Cx) (T : List (Addr × Str)) (t : XK → TE) (k : Nat) : TE := fun _ H Q => Tabs T H ∧ ∀ f H1, ExtN H H1 → Tabs T H1 → LamS X t k H1 f → Q (.ref f) H1
theorem pe_lamV0 {T : List (Addr × Str)} {c P : Addr} {params : Arguments} {body : Expr} {scope : Scope} {pos : Pos} (TB : TabB X.base X.mg c P) (hcode : X.env.code = .ref c) (hm : (P, X.env.qual ++ "<lambda>") ∈ T) (hu : ∀ p ∈ T, p.1 = P → p.2 = X.env.qual ++ "<lambda>") (L : LamSc X.N X.env.scope scope)
    (hdef : defaultsOf params X.env = ([], [])) (hb : DvBind false params body scope) (hbody : ∀ (A : Around) (outer : List Env) (s : Shared) (H : Hp) (E : XK) (f c' : Addr), Room k (A.deeper (lamEnv X scope s.heap.objs.size f c')) → PE (lamCx X A outer s H E scope f c') body (t E)) :
    PE X (.Lambda params body scope pos) (tLamV X T t k) := by
  refine ⟨fun pins s σ H Q I h => ?_⟩
  obtain ⟨hT, h⟩ := h
  refine PySem.W.kla_eval hdef ?_
  rw [makeFunction_eq]
  simp only [List.zip_nil_right, List.filterMap_nil, List.isEmpty_nil, if_true, pure_bind]
  refine lamv_tail I TB hcode hm hu hT L fun f c' doc pm ctv H1 s' I1 E1 T1 hf hc => ⟨.ref f, H1, I1, rfl, h f H1 E1 T1 (lamS_mk L hb hbody hf hc ?_)⟩
  unfold DvAt
  rw [if_neg Bool.false_ne_true]
theorem pe_lamV1 {T : List (Addr × Str)} {c P : Addr} {params : Arguments} {body e : Expr} {scope : Scope} {pos : Pos} (TB : TabB X.base X.mg c P) (hcode : X.env.code = .ref c) (hm : (P, X.env.qual ++ "<lambda>") ∈ T) (hu : ∀ p ∈ T, p.1 = P → p.2 = X.env.qual ++ "<lambda>") (L : LamSc X.N X.env.scope scope)
    (hd : params.defaults = [e]) (hk : params.kw_defaults = []) (he : PE X e (tC (.int 0))) (hb : DvBind true params body scope) (hbody : ∀ (A : Around) (outer : List Env) (s : Shared) (H : Hp) (E : XK) (f c' : Addr), Room k (A.deeper (lamEnv X scope s.heap.objs.size f c')) → PE (lamCx X A outer s H E scope f c') body (t E)) :
    PE X (.Lambda params body scope pos) (tLamV X T t k) := by
  refine ⟨fun pins s σ H Q I h => ?_⟩
  obtain ⟨hT, h⟩ := h
  refine PySem.W.kdv_lam (by rw [hd]; rfl) hk ?_
  rw [hd]
  refine PySem.W.kdv_all1 (thn (he.run pins s σ H (fun v H' => v = .int 0 ∧ H' = H) I ⟨rfl, rfl⟩) fun u s1 ⟨v, H1, I1, r, e1, e2⟩ => PySem.W.kdv_all0 ?_)
  subst e1 e2
  obtain ⟨tk, rfl⟩ := r
  rw [makeFunction_eq]
  simp only [List.zip_nil_right, List.filterMap_nil, List.isEmpty_nil, List.isEmpty_cons, if_true, pure_bind, Bool.false_eq_true, if_false]
  refine wpAny_bind (wpAny_newTextTuple ?_)
  have nT : H1 s1.heap.objs.size = none := I1.hok.fresh (Nat.le_refl _)
  have sT := same_upd (o := HO.tup [.int 0]) nT
  have I2 := I1.laid (t' := s1.toks) (a := s1.heap.objs.size) (o := HO.tup [.int 0]) (h' := s1.heap.push (PySem.W.kdv_tup [.int 0 tk])) (fun b o e => Heap.get?_push_of_some _ e) (Nat.le_refl _) ⟨by show 1 ≤ sizeLine; decide, [.int 0 tk], .cons ⟨_, rfl⟩ .nil, _, Heap.get?_push_size _ rfl, rfl, _, rfl⟩
  refine lamv_tail I2 TB hcode hm hu (LamX.Tabs.ext hT sT) L fun f c' doc pm ctv H2 s' I3 E2 T2 hf hc => ⟨.ref f, H2, I3, rfl, h f H2 ((ExtN.of sT).trans E2) T2 (lamS_mk L hb hbody hf hc ?_)⟩
  unfold DvAt
  rw [if_pos rfl]
  exact ⟨_, rfl, E2 _ _ upd_same fun ps z => by cases z⟩
/-- a call of a def that sees the cells of this frame -/
def tCallV (X : Cx) (sp : Sp) (ta : TA) : TE := fun σ H Q => ta σ H fun vs H1 => ∀ cs : Cells, CellsFit X σ cs → (∀ b o, cs.lookup b = some o → H1 b = none) → sp vs (rev cs H1) (fun v H2 => Q v (hid cs H2)) E0
theorem pe_callV {j : Nat} {g : Addr} {fd : FuncData} {ps : List Str} {sp : Sp} {x : Str} {p pos : Pos} {e : Expr} {es : List Expr} {ta : TA} (F : FnOk X.prog X.w X.K X.mg X.base CX0 j g fd ps sp) (hr : Room j X.A) (hg : Gl X x) (hm : X.mg x = some (.ref g)) (hk : PySem.W.keepIn X.K (.ref g) = true) (hb : L2.Binds X.K fd ps [])
    (hfn : ∀ x, X.fn x = true) (ha : PA X (e :: es) ta)
    (hdb : (x == ("__debug__" : Str)) = false := by decide) (he : starEach (e :: es) X.env = (false, eval e X.env) :: starEach es X.env := by rfl) (hpl : (backTo pos (starEach es X.env)).any (·.1) = false := by rfl) :
    PE X (.Call (.Name x p) (e :: es) [] pos) (tCallV X sp ta) := by
  refine ⟨fun pins s σ H Q I h => ?_⟩
  refine wpAny_Call_Name_kw (ld_glob I hg hm ?_ hdb)
  refine PySem.W.callWith_K (h₀ := X.base) I.ok.mod.kin hk (thn (ha.run pos pins s σ H _ I h) fun us s1 ⟨vs, H1, I1, r1, q1⟩ => ⟨I1.kIn, ?_⟩) he hpl
  obtain ⟨cs, fit, out, nb, nf⟩ := cells_fit I1 hfn
  have hsp := q1 cs fit out.no
  have r2 : Vals vs us := r1
  have hl : us.length = ps.length := by rw [← r2.length]; exact F.len _ _ _ _ hsp
  refine wpAny_call (codeAny_mono (F.run X.A X.stack s1 (rev cs H1) ⟨us, []⟩ (us ++ []) vs _ E0 hr (rev_env0 I1.env0 out nb nf) (hb s1 us I1.kIn (by rw [List.append_nil]; exact hl)) (by rw [List.append_nil]; exact r2) hsp) fun r s' hq => ?_)
  cases r with
  | error e => exact (show False from hq).elim
  | ok fl =>
    cases fl with
    | ret u => exact I1.after (ce_hid out nf hq)
    | next => exact False.elim hq
    | brk => exact False.elim hq
    | cont => exact False.elim hq
end
end
abbrev s_l_all_raise : Stmt := top 57
abbrev N_l_all_raise : List Str := ["_law_calls", "_law_expected", "_law_call"]
abbrev P_l_all_raise : List Str := ["_law_calls", "_law_expected"]
theorem sc_l_all_raise : FnScope N_l_all_raise P_l_all_raise (defScope s_l_all_raise) := ⟨rfl, rfl, rfl, by decide +kernel, rfl, by decide +kernel, by decide +kernel⟩
/-! ### the helpers over lambdas that are values -/
section
variable {P : Program} {w : World} {K : PySem.W.Frag} {mg : Str → Option Value} {base : Heap}
/-- the helper is given a value that raises one of the plain errors, or nothing -/
def spErrV (P : Program) (w : World) (K : PySem.W.Frag) (mg : Str → Option Value) (base : Heap) (CP : Addr) (c : Nat → Addr) (j : Nat) : Sp := fun vs H Q _ => ∃ (f : Addr) (tl : XK → Hp → VK → Prop), vs = [.ref f] ∧ LamVal P w K mg base j H f tl ∧ TTerr K CP c tl H Q
theorem ok_errv {f CP : Addr} {fd : FuncData} {c : Nat → Addr} {j : Nat} (F : Fun K "_law_error_of" "_law_error_of" s_l_error_of f fd) (B : Blt mg) (ME : ErrM mg CP c) (hj : 1 ≤ j) : FnOk P w K mg base CX0 (j + 1) f fd P_l_error_of (spErrV P w K mg base CP c j) := by
  obtain ⟨oc, od, kV, doc, pm, an, cdv, ct, osl, rfl, lk, hcd⟩ := F.ex
  refine ⟨fun vs H Q E h => ?_, fun A outer s H args us vs Q E hr e0 hb r h => ?_⟩
  · obtain ⟨g, tl, rfl, _⟩ := h
    rfl
  · obtain ⟨g, tl, rfl, L, ht⟩ := h
    refine LamX.run_ofS (N := N_l_error_of) (ps := P_l_error_of) lk hcd sc_l_error_of hr e0 hb r rfl fun hr' => ?_
    let X : Cx := { (cxOf C8.CX0 P w K mg base N_l_error_of "_law_error_of" (defScope s_l_error_of) f cdv A outer s H C8.E0) with A := A, stack := outer }
    obtain ⟨t, h1, h2⟩ := err_core (X := X) (g := f) (cdg := cdv) (k := j - 1) (f := g) (s := s) (H := H) (Q := Q) (tl := fun E HZ Q' => Same H HZ ∧ tl E HZ Q') ME B (hr.mono (by omega)) (fun W pn xe E p1 p2 tk hW => pe_callLV (i := 0) L hr' (passes_call tk hW) rfl (.inl rfl)) ⟨.refl H, ht⟩
    exact ⟨t, h1.nox, h2⟩
/-- all values raise the error of the number i -/
def spAllR (P : Program) (w : World) (K : PySem.W.Frag) (mg : Str → Option Value) (base : Heap) (c : Nat → Addr) (j i : Nat) : Sp := fun vs H Q _ => ∃ (l e : Addr) (fs : List Addr), vs = [.ref l, .ref e] ∧ H l = some (.lst (fs.map V.ref)) ∧ fs.length ≤ 60 ∧ H e = some (.tup [.str (eName i), .int 0]) ∧
  (∀ f ∈ fs, ∃ tl, LamVal P w K mg base j H f tl ∧ ∀ (H' : Hp) (EE : XK) (QQ : VK), Same H H' → (∀ H'', Same H' H'' → EE (.ref (c i)) none H'') → tl EE H' QQ) ∧ ∀ H', Same H H' → Q (.bl true) H'
set_option maxHeartbeats 0 in
theorem ok_allr {f CP : Addr} {fd : FuncData} {c : Nat → Addr} {j i : Nat} (F : Fun K "_law_all_raise" "_law_all_raise" s_l_all_raise f fd) (DE : Df P w K mg base "_law_error_of" (j + 1) P_l_error_of (spErrV P w K mg base CP c j)) (e15 : Err15 K CP c (c i) i) (hi : i < 11) (sh : ∀ i, i < 15 → PySem.SeqAt.shaped (.tuple [.str (eName i), .int 0]) = true) : FnOk P w K mg base CX0 (j + 3) f fd P_l_all_raise (spAllR P w K mg base c j i) := by
  obtain ⟨fE, dE, gE, kE, bE, GE⟩ := DE
  refine F.ok sc_l_all_raise (fun vs H Q E h => ?_) (fun cdv A outer s H vs Q E hr h => ?_)
  · obtain ⟨l, e, fs, rfl, _⟩ := h
    rfl
  · obtain ⟨l, e, fs, rfl, hl, len, he, hf, q⟩ := h
    have hu : (A.deeper (PyProof.Rows.envOfC "_law_all_raise" (defScope s_l_all_raise) s.heap.objs.size f cdv)).units + 64 < cLine := hr.units
    have hr1 : Room (j + 1) _ := hr.mono (by omega)
    refine ⟨_, pss_one (ps_ret (pe_cmpR (op_eqD hu) (pe_lc (own := [("_law_call", 2)]) (g := gName 2) (tt := tTest (tOp (rNeD K) (tCall (spErrV P w K mg base CP c j) [] E0 (tCons (tVar 2) tNil)) (tVar 1))) (te := tVar 2) (by rfl) sc_l_all_raise.nd (pi_list (pv 0)) (blkOk_by (N := N_l_all_raise) (sc := defScope s_l_all_raise) (by decide +kernel)) (fun _ _ _ _ _ => (pg_name (i := 2) sc_l_all_raise.nd rfl (.inl rfl))) (fun _ _ _ _ _ => pts_one (pt_cmpR (op_neD hu) (pe_call GE hr1 (by rfl) gE kE bE .nil pass0 (pa_cons (pv 2) pa_nil)) (pv 1) (nomark _))) (fun _ _ _ _ _ => pv 2)) (pe_lst pa_nil) (nomark _))), ?_⟩
    refine ⟨_, rfl, l, rfl, ⟨_, SqL.of hl⟩, fun D nD => ?_⟩
    refine lc_list (K := K) (a := l) (xs := fs.map V.ref) (fun i H' => Same H H' ∧ H' D = some (.lst [])) ⟨same_upd nD, upd_same⟩ (fun i H' _ ⟨s', _⟩ => SqL.of (s' _ _ hl)) ?_ ?_
    · rintro n v H' hn ⟨s', hD⟩
      rw [List.getElem?_map] at hn
      obtain ⟨g, hg, rfl⟩ := Option.map_eq_some_iff.mp hn
      obtain ⟨tl, L, hL⟩ := hf g (List.mem_of_getElem? hg)
      refine ⟨rfl, _, rfl, g, tl, rfl, L.same s', hL H' _ _ s' fun H'' s'' => ⟨c i, i, rfl, rfl, e15, hi, fun u H3 s3 hu3 => ?_⟩⟩
      have s13 := s'.trans (s''.trans s3)
      refine ⟨_, rfl, _, _, .tup (SqT.of hu3) (.cons (.str _) (.cons (.int _) .nil)), .tup (SqT.of (s13 _ _ he)) (.cons (.str _) (.cons (.int _) .nil)), sh i (by omega), sh i (by omega), false, congrArg V.bl (by rw [PySem.SeqAt.eqv_refl _ (PySem.SeqAt.canLay_of_shaped (sh i (by omega)))]; rfl), iteF ⟨s13, (s''.trans s3) _ _ hD⟩⟩
    · rintro H' ⟨s', hD⟩
      refine ⟨(by show 0 ≤ sizeLine; decide), fun z nz => ?_⟩
      have s2 := same_upd (o := HO.lst []) nz
      refine ⟨.list [], .list [], .lst (SqL.of (s2 _ _ hD)) .nil, .lst (SqL.of upd_same) .nil, by decide +kernel, by decide +kernel, ?_⟩
      exact q _ (s'.trans s2)
end
/-! ### letters that a watcher refuses -/
def spHouseX (C D : Addr) : Sp := fun vs H _ E => ∃ (x t : Addr) (p h : Nat) (a : Int) (os : List Od) (F : List Addr), vs = [.ref x, .int a] ∧ NetAt C H x p h os t F ∧ ¬ (0 ≤ a ∧ a < h) ∧ E (.ref D) none H
def spDayX (D : Addr) : Sp := fun vs H _ E => ∃ (d : Int), vs = [.int d] ∧ ¬ (0 ≤ d ∧ d ≤ 1000000000000000000) ∧ E (.ref D) none H
def spLetX (C DH DD : Addr) : Sp := fun vs H _ E => ∃ (x t : Addr) (p h : Nat) (a d : Int) (os : List Od) (F : List Addr), vs = [.ref x, .int a, .int d] ∧ NetAt C H x p h os t F ∧ ((¬ (0 ≤ a ∧ a < h) ∧ E (.ref DH) none H) ∨ ((0 ≤ a ∧ a < h) ∧ ¬ (0 ≤ d ∧ d ≤ 1000000000000000000) ∧ E (.ref DD) none H))
/-- a value that is no result of a net with h houses -/
inductive OddAt (h : Nat) (H : Hp) : V → Prop where
  | int {i : Int} : OddAt h H (.int i)
  | str {s : Str} : OddAt h H (.str s)
  | lst {a : Addr} {xs : List V} (e : H a = some (.lst xs)) : OddAt h H (.ref a)
  | tup {a : Addr} {xs : List V} (e : H a = some (.tup xs)) (n : xs.length ≠ 2) (l : xs.length < 1000) : OddAt h H (.ref a)
  | pair {a : Addr} {u v : V} (e : H a = some (.tup [u, v])) (ku : KnT H u) (kv : KnT H v) (b : withinB u 0 ((h : Int) - 1) = false ∨ isIntB v = false) : OddAt h H (.ref a)
theorem OddAt.keep {h : Nat} {H H' : Hp} {v : V} (o : OddAt h H v) (k : TupKeep H H') (l : ∀ a xs, v = .ref a → H a = some (.lst xs) → H' a = some (.lst xs)) : OddAt h H' v := by
  cases o with
  | int => exact .int
  | str => exact .str
  | lst e => exact .lst (l _ _ rfl e)
  | tup e n q => exact .tup (k _ _ e) n q
  | pair e ku kv b => exact .pair (k _ _ e) (ku.keep k) (kv.keep k) b
theorem OddAt.same {h : Nat} {H H' : Hp} {v : V} (o : OddAt h H v) (s : Same H H') : OddAt h H' v := o.keep (tk_of s) fun a xs _ e => s _ _ e
def spChkResX (C D : Addr) : Sp := fun vs H _ E => ∃ (x t : Addr) (p h : Nat) (os : List Od) (F : List Addr) (y : V), vs = [.ref x, y] ∧ NetAt C H x p h os t F ∧ OddAt h H y ∧ E (.ref D) none H
/-- the letter with this house, day and result is refused, by an error of D -/
def BadLet (h : Nat) (H : Hp) (a d : Int) (y : V) (DH DD DR D : Addr) : Prop := (¬ (0 ≤ a ∧ a < h) ∧ D = DH) ∨ ((0 ≤ a ∧ a < h) ∧ ¬ (0 ≤ d ∧ d ≤ 1000000000000000000) ∧ D = DD) ∨ ((0 ≤ a ∧ a < h) ∧ (0 ≤ d ∧ d ≤ 1000000000000000000) ∧ OddAt h H y ∧ D = DR)
theorem BadLet.same {h : Nat} {H H' : Hp} {a d : Int} {y : V} {DH DD DR D : Addr} (b : BadLet h H a d y DH DD DR D) (s : Same H H') : BadLet h H' a d y DH DD DR D := by
  rcases b with b | b | ⟨b1, b2, b3, b4⟩
  · exact .inl b
  · exact .inr (.inl b)
  · exact .inr (.inr ⟨b1, b2, b3.same s, b4⟩)
def WBadI (O C : Addr) (DH DD DR D : Addr) (H : Hp) (s : Addr) (us : List V) : Prop := ∃ (S : WatS) (pre : List Obs) (ub : Addr) (a d : Int) (y : V) (us0 rest : List V), us = us0 ++ .ref ub :: rest ∧ WatAt O C H s S ∧ Paired (ObsAt H) us0 pre ∧ (∀ b ∈ pre, b.1.1 < S.h ∧ b.1.2 ≤ 1000000000000000000 ∧ ∀ c, b.2 = some c → c.1 < S.h) ∧ remA S pre ≠ [] ∧ H ub = some (.tup [.int a, .int d, y]) ∧ BadLet S.h H a d y DH DD DR D ∧ S.rem.length ≤ 100 ∧ us.length ≤ 500
theorem WBadI.same {O C DH DD DR D : Addr} {H H' : Hp} {s : Addr} {us : List V} (w : WBadI O C DH DD DR D H s us) (e : Same H H') : WBadI O C DH DD DR D H' s us := by
  obtain ⟨S, pre, ub, a, d, y, us0, rest, h1, h2, h3, h4, h5, h6, h7, h8, h9⟩ := w
  exact ⟨S, pre, ub, a, d, y, us0, rest, h1, h2.same e, Paired.mapP h3 fun _ _ z => z.keep (tk_of e), h4, h5, e _ _ h6, h7.same e, h8, h9⟩
def spWAllBI (O C DH DD DR : Addr) : Sp := fun vs H _ E => ∃ (s p D : Addr) (us : List V), vs = [.ref s, .ref p] ∧ H p = some (.tup us) ∧ WBadI O C DH DD DR D H s us ∧ ∀ H', Same H H' → E (.ref D) none H'
def spWAllB (O C DH DD DR : Addr) : Sp := fun vs H _ E => ∃ (s D : Addr) (us : List V), vs = .ref s :: us ∧ WBadI O C DH DD DR D H s us ∧ ∀ H', Same H H' → E (.ref D) none H'
def spWSeeB (O C DH DD DR : Addr) : Sp := fun vs H _ E => ∃ (s D : Addr) (S : WatS) (a d : Int) (y : V), vs = [.ref s, .int a, .int d, y] ∧ WatAt O C H s S ∧ BadLet S.h H a d y DH DD DR D ∧ S.rem ≠ [] ∧ S.rem.length ≤ 100 ∧ ∀ H', Same H H' → E (.ref D) none H'
def spWInitX (K : PySem.W.Frag) (O C D : Addr) : Sp := fun vs H _ E => ∃ (s x t : Addr) (p h : Nat) (os : List Od) (F : List Addr) (v : V), vs = [.ref s, .ref x, v] ∧ NetAt C H x p h os t F ∧ Kn K H v ∧ withinB v 0 ((os.length : Int) - 1) = false ∧ E (.ref D) none H
section
variable {P : Program} {w : World} {K : PySem.W.Frag} {mg : Str → Option Value} {base : Heap}
theorem within_out {a lo hi : Int} (n : ¬ (lo ≤ a ∧ a ≤ hi)) : withinB (.int a) lo hi = false := by
  show (decide (lo ≤ a) && decide (a ≤ hi)) = false
  by_cases c : lo ≤ a
  · rw [decide_eq_false (show ¬ a ≤ hi from fun z => n ⟨c, z⟩), Bool.and_false]
  · rw [decide_eq_false c, Bool.false_and]
theorem ok_houseX {f C D : Addr} {fd : FuncData} (F : Fun K "check_house" "check_house" s_check_house f fd) (T : NetT K C) (ER : ErrR K mg "UnknownHouse" D) (DW : Df P w K mg base "is_within" 2 P_is_within (spWithin K)) : FnOk P w K mg base (L2.CX P w) 3 f fd P_check_house (spHouseX C D) := by
  obtain ⟨fW, fdW, gW, kW, bW, GW⟩ := DW
  refine F.okX sc_check_house (fun vs H Q E h => ?_) (fun cdv A outer s H vs Q E hr h => ?_)
  · obtain ⟨x, t, p, h, a, os, F, rfl, _⟩ := h
    rfl
  · obtain ⟨x, t, p, h, a, os, F, rfl, ⟨dx, fl, as, _, hx, _⟩, ha, q⟩ := h
    refine ⟨_, pss_one (ps_if (pt_not (pt_val (pe_call GW hr (by rfl) gW kW bW .nil pass0 (pa_cons (pv 1) (pa_cons pe_int (pa_cons (pe_op op_sub (pe_fld (pv 0) rfl) pe_int) pa_nil)))))) (pss_one (ps_raise rfl (takes_of rfl rfl rfl rfl) (pmk_err ER (by rfl)))) pss_nil), ?_⟩
    refine ⟨_, rfl, _, rfl, x, C, dx, _, _, rfl, hx, T.cl, T.nH, nf_ho, _, _, rfl, rfl, .int a, 0, (h : Int) - 1, rfl, .int, _, rfl, ?_⟩
    rw [within_out (fun z => ha ⟨z.1, by omega⟩)]
    exact iteT q
theorem ok_dayX {f D : Addr} {fd : FuncData} (F : Fun K "check_day" "check_day" s_check_day f fd) (ER : ErrR K mg "InvalidDay" D) (DW : Df P w K mg base "is_within" 2 P_is_within (spWithin K)) (hL : ∃ t, mg "LAST_DAY" = some (.int 1000000000000000000 t)) : FnOk P w K mg base (L2.CX P w) 3 f fd P_check_day (spDayX D) := by
  obtain ⟨fW, fdW, gW, kW, bW, GW⟩ := DW
  obtain ⟨tkL, hL⟩ := hL
  refine F.okX sc_check_day (fun vs H Q E h => ?_) (fun cdv A outer s H vs Q E hr h => ?_)
  · obtain ⟨d, rfl, _⟩ := h
    rfl
  · obtain ⟨d, rfl, hd, q⟩ := h
    refine ⟨_, pss_one (ps_if (pt_not (pt_val (pe_call GW hr (by rfl) gW kW bW .nil pass0 (pa_cons (pv 0) (pa_cons pe_int (pa_cons (pe_glob (v := .int 1000000000000000000) rfl hL ⟨_, rfl⟩) pa_nil)))))) (pss_one (ps_raise rfl (takes_of rfl rfl rfl rfl) (pmk_err ER (by rfl)))) pss_nil), ?_⟩
    refine ⟨_, rfl, .int d, 0, 1000000000000000000, rfl, .int, _, rfl, ?_⟩
    rw [within_out hd]
    exact iteT q
theorem ok_letterX {f fH fD C DH DD : Addr} {fd fdH fdD : FuncData} (F : Fun K "check_letter" "check_letter" s_check_letter f fd) (gH : mg "check_house" = some (.ref fH)) (kH : PySem.W.keepIn K (.ref fH) = true) (bH : Binds K fdH P_check_house []) (GH0 : FnOk P w K mg base CX0 3 fH fdH P_check_house (spHouse C)) (GHX : FnOk P w K mg base (L2.CX P w) 3 fH fdH P_check_house (spHouseX C DH))
    (gD : mg "check_day" = some (.ref fD)) (kD : PySem.W.keepIn K (.ref fD) = true) (bD : Binds K fdD P_check_day []) (GDX : FnOk P w K mg base (L2.CX P w) 3 fD fdD P_check_day (spDayX DD)) : FnOk P w K mg base (L2.CX P w) 4 f fd P_check_letter (spLetX C DH DD) := by
  have GH := FnOk.or (FnOk.up GH0) GHX
  refine F.okX sc_check_letter (fun vs H Q E h => ?_) (fun cdv A outer s H vs Q E hr h => ?_)
  · obtain ⟨x, t, p, h, a, d, os, F, rfl, _⟩ := h
    rfl
  · obtain ⟨x, t, p, h, a, d, os, F, rfl, N, hc⟩ := h
    refine ⟨_, pss_cons (ps_expr (pe_call (E := E) GH hr (by rfl) gH kH bH .nil (passes_call (takes_of rfl rfl rfl rfl) fun _ _ _ _ z => z) (pa_cons (pv 0) (pa_cons (pv 1) pa_nil)))) (pss_one (ps_expr (pe_call (E := E) GDX hr (by rfl) gD kD bD .nil (passes_call (takes_of rfl rfl rfl rfl) fun _ _ _ _ z => z) (pa_cons (pv 2) pa_nil)))), ?_⟩
    rcases hc with ⟨ha, q⟩ | ⟨ha, hd, q⟩
    · exact ⟨_, rfl, _, rfl, .inr ⟨x, t, p, h, a, os, F, rfl, N, ha, q⟩⟩
    · obtain ⟨n, rfl⟩ : ∃ n : Nat, a = n := ⟨a.toNat, by omega⟩
      exact ⟨_, rfl, _, rfl, .inl ⟨x, t, p, h, n, os, F, rfl, N, by omega, _, rfl, d, rfl, hd, q⟩⟩
theorem ok_chk_resX {f C D : Addr} {fd : FuncData} (F : Fun K "check_result" "check_result" s_check_result f fd) (B : Blt mg) (T : NetT K C) (ER : ErrR K mg "InvalidResult" D) (DW : Df P w K mg base "is_within" 2 P_is_within (spWithin K)) (DI : Df P w K mg base "is_integer" 1 P_is_integer (spIsInt K)) : FnOk P w K mg base (L2.CX P w) 3 f fd P_check_result (spChkResX C D) := by
  obtain ⟨fW, fdW, gW, kW, bW, GW⟩ := DW
  obtain ⟨fI, fdI, gI, kI, bI, GI⟩ := DI
  refine F.okX sc_check_result (fun vs H Q E h => ?_) (fun cdv A outer s H vs Q E hr h => ?_)
  · obtain ⟨x, t, p, h, os, F, y, rfl, _⟩ := h
    rfl
  · obtain ⟨x, t, p, h, os, F, y, rfl, N, hy, q⟩ := h
    have hr1 : Room 1 _ := hr.mono (by decide)
    refine ⟨_, pss_cons (ps_if (pt_cmpR op_isN (pv 1) pe_non (nomark _)) (pss_one ps_retN) pss_nil)
      (pss_cons (ps_if (PW.pt (pw_or (pt_not (pt_val (pe_callB call_isi (by rfl) B.isi PyProof.Rows.boot_isinstance (pa_cons (pv 1) (pa_cons (pe_bltn (v := .ty "tuple") (by rfl) B.tuple (by decide +kernel) rfl) pa_nil)))))
        (pw_or1 (pt_cmpR op_ne (pe_callB call_len_seq (by rfl) B.len PySem.boot_len (pa_cons (pv 1) pa_nil)) pe_int (nomark _))))) (pss_one (ps_raise rfl (takes_of rfl rfl rfl rfl) (pmk_err ER (by rfl)))) pss_nil)
      (pss_cons (ps_asg (pv 1) (pg_tup (by rfl) (pgs_cons (pg_name (i := 2) sc_check_result.nd rfl (.inl rfl)) (pgs_cons (pg_name (i := 3) sc_check_result.nd rfl (.inl rfl)) pgs_nil))))
      (pss_one (ps_if (PW.pt (pw_or (pt_not (pt_val (pe_call GW hr (by rfl) gW kW bW .nil pass0 (pa_cons (pv 2) (pa_cons pe_int (pa_cons (pe_op op_sub (pe_fld (pv 0) rfl) pe_int) pa_nil))))))
        (pw_or1 (pt_not (pt_val (pe_call GI hr1 (by rfl) gI kI bI .nil pass0 (pa_cons (pv 3) pa_nil))))))) (pss_one (ps_raise rfl (takes_of rfl rfl rfl rfl) (pmk_err ER (by rfl)))) pss_nil)))), ?_⟩
    obtain ⟨dx, fl, as, _, hx, _⟩ := id N
    cases hy with
    | int => exact ⟨_, rfl, rfl, _, rfl, iteF ⟨_, rfl, _, _, _, _, false, rfl, .ty "tuple", .base (.int _), kit_ty (by decide +kernel), _, rfl, iteT q⟩⟩
    | str => exact ⟨_, rfl, rfl, _, rfl, iteF ⟨_, rfl, _, _, _, _, false, rfl, .ty "tuple", .base (.str _), kit_ty (by decide +kernel), _, rfl, iteT q⟩⟩
    | lst e => exact ⟨_, rfl, rfl, _, rfl, iteF ⟨_, rfl, _, _, _, _, false, rfl, .ty "tuple", .base (.lst e), kit_ty (by decide +kernel), _, rfl, iteT q⟩⟩
    | @tup a xs e n l =>
      refine ⟨_, rfl, rfl, _, rfl, iteF ⟨_, rfl, _, _, _, _, true, rfl, .ty "tuple", .base (.tup e), kit_ty (by decide +kernel), _, rfl, iteF ⟨_, rfl, a, _, rfl, .inr (SqT.of e), rfl, true, congrArg V.bl (by rw [decide_eq_false (fun z => n (by have := V.int.inj z; omega))]; rfl), iteT q⟩⟩⟩
    | @pair a u v e ku kv b =>
      refine ⟨_, rfl, rfl, _, rfl, iteF ⟨_, rfl, _, _, _, _, true, rfl, .ty "tuple", .base (.tup e), kit_ty (by decide +kernel), _, rfl, iteF ⟨_, rfl, a, _, rfl, .inr (SqT.of e), rfl, _, rfl, iteF ?_⟩⟩⟩
      refine ⟨_, rfl, a, _, rfl, SqT.of e, rfl, _, _, rfl, _, _, rfl, rfl, ?_⟩
      refine ⟨_, rfl, _, rfl, x, C, dx, _, _, rfl, hx, T.cl, T.nH, nf_ho, _, _, rfl, rfl, u, 0, ((h : Int) - 1), rfl, ku.kn, _, rfl, ?_⟩
      by_cases c : withinB u 0 ((h : Int) - 1) = true
      · rw [c]
        refine iteF ⟨_, rfl, _, rfl, kv.kn, _, rfl, ?_⟩
        rw [b.resolve_left (fun z => by rw [c] at z; cases z)]
        exact iteT q
      · rw [Bool.eq_false_iff.mpr c]
        exact iteT q
end
/-! ### the letters up to one that is refused -/
section
variable {P : Program} {w : World} {K : PySem.W.Frag} {mg : Str → Option Value} {base : Heap}
theorem ok_w_allB {f fR fL fC O C DH DD DR : Addr} {fd fdR fdL fdC : FuncData} (F : Fun K "see_all" "Watcher.see_all" s_Watcher_see_all f fd) (B : Blt mg) (T : WatT K O) (TN : NetT K C) (gL : mg "check_letter" = some (.ref fL)) (kL : PySem.W.keepIn K (.ref fL) = true) (bL : Binds K fdL P_check_letter []) (GL0 : FnOk P w K mg base CX0 4 fL fdL P_check_letter (spLetter C)) (GLX : FnOk P w K mg base (L2.CX P w) 4 fL fdL P_check_letter (spLetX C DH DD))
    (gC : mg "check_result" = some (.ref fC)) (kC : PySem.W.keepIn K (.ref fC) = true) (bC : Binds K fdC P_check_result []) (GC0 : FnOk P w K mg base CX0 3 fC fdC P_check_result (spChkRes C)) (GCX : FnOk P w K mg base (L2.CX P w) 3 fC fdC P_check_result (spChkResX C DR))
    (mR : Meth K O "result_with" fR) (GR : FnOk P w K mg base CX0 3 fR fdR P_Watcher_result_with (spWRes O C)) (bR : Binds K fdR P_Watcher_result_with []) : FnR P w K mg base (L2.CX P w) 5 f (spWAllB O C DH DD DR) := by
  have GL := FnOk.or (FnOk.up GL0) GLX
  have GC := FnOk.or (FnOk.up GC0) GCX
  refine (fun_star1X F (p1 := "self") (pv := "letters") (sp := spWAllBI O C DH DD DR) sc_Watcher_see_all (fun _ _ _ _ _ _ _ => rfl) (fun _ _ _ _ _ _ _ _ _ => rfl) (fun cdv A outer s0 H vs Q E hr h => ?_)).imp fun vs H Q E h => ?_
  · obtain ⟨s, p, D, us, rfl, hp, ⟨S, pre, ub, a0, d0, y0, us0, rest, eus, W0, hus, hob, rne, hub, bad, rl, ul⟩, q⟩ := h
    have pl0 := hus.length
    have pl : pre.length ≤ 500 := by
      rw [eus, List.length_append] at ul
      omega
    have hu : (A.deeper (PyProof.Rows.envOfC "Watcher.see_all" (defScope s_Watcher_see_all) s0.heap.objs.size f cdv)).units + 64 < cLine := by
      have := hr.un
      omega
    have hr3 : Room 3 (A.deeper (PyProof.Rows.envOfC "Watcher.see_all" (defScope s_Watcher_see_all) s0.heap.objs.size f cdv)) := hr.mono (by decide)
    refine ⟨_, pss_cons (ps_set (i := 2) sc_Watcher_see_all.nd rfl (.inl rfl) (pe_fld (pv 0) rfl))
      (pss_cons (ps_set (i := 3) sc_Watcher_see_all.nd rfl (.inl rfl) (pe_lst pa_nil))
      (pss_cons (ps_for (passes_of rfl) rfl (pi_tup (pv 1)) (pg_tup (by rfl) (pgs_cons (pg_name (i := 4) sc_Watcher_see_all.nd rfl (.inr rfl)) (pgs_cons (pg_name (i := 5) sc_Watcher_see_all.nd rfl (.inr rfl)) (pgs_cons (pg_name (i := 6) sc_Watcher_see_all.nd rfl (.inr rfl)) pgs_nil))))
        (pss_cons (ps_expr (pe_call (E := E) GL hr (by rfl) gL kL bL .nil (passes_call (takes_of rfl rfl rfl rfl) fun _ _ _ _ z => z) (pa_cons (pe_fld (pv 0) rfl) (pa_cons (pv 4) (pa_cons (pv 5) pa_nil)))))
        (pss_cons (ps_expr (pe_call (E := E) GC hr3 (by rfl) gC kC bC .nil (passes_call (takes_of rfl rfl rfl rfl) fun _ _ _ _ z => z) (pa_cons (pe_fld (pv 0) rfl) (pa_cons (pv 6) pa_nil))))
        (pss_cons (ps_setLc (i := 2) (own := [("candidate", 7)]) (g := gName 7) (tt := tTest (tOp (rEqD K) (tMeth O "result_with" (spWRes O C) [] E0 (tVar 0) (tCons (tVar 7) (tCons (tVar 4) (tCons (tVar 5) tNil)))) (tVar 6))) (te := tVar 7) (by rfl) sc_Watcher_see_all.nd rfl rfl (sw_true rfl rfl rfl (by decide +kernel))
          (pi_list (pv 2)) (blkOk_by (N := N_Watcher_see_all) (sc := defScope s_Watcher_see_all) (by decide +kernel)) (fun _ _ _ _ _ => pg_name (i := 7) sc_Watcher_see_all.nd rfl (.inl rfl))
          (fun _ _ _ _ _ => pts_one (pt_cmpR (op_eqD hu) (pe_meth (pv 0) T.cl mR GR hr3 bR .nil pass0 (pa_cons (pv 7) (pa_cons (pv 4) (pa_cons (pv 5) pa_nil)))) (pv 6) (nomark _))) (fun _ _ _ _ _ => pv 7))
        (pss_cons (ps_if (pt_not (pt_truth (pv 2) (fun _ => rfl))) (pss_one ps_never) pss_nil)
        (pss_one (ps_expr (pe_bm PySem.F.plainAttrs_list PySem.F.slot_list_append PySem.F.type_list_append mt_append (pv 3) (pa_cons (pe_tup (pa_cons (pv 4) (pa_cons (pv 5) (pa_cons (pv 6) pa_nil)))) pa_nil)))))))))
      (pss_cons (ps_fld (pv 0) (pv 2) rfl)
      (pss_cons (ps_fld (pv 0) (pe_op op_cat (pe_fld (pv 0) rfl) (pv 3)) rfl)
      (pss_one (ps_ret (pe_callB call_len_seq (by rfl) B.len PySem.boot_len (pa_cons (pv 2) pa_nil)))))))), ?_⟩
    obtain ⟨dx, h1⟩ := W0.ins
    obtain ⟨rv0, h7, h8⟩ := W0.rem
    obtain ⟨dn, _, _, _, hn, _⟩ := id W0.net
    refine ⟨_, rfl, s, O, dx, _, _, rfl, h1, T.cl, T.nR, wf_r, ?_⟩
    refine ⟨Nat.zero_le _, fun L nL => ?_⟩
    have sL := same_upd (o := HO.lst []) nL
    refine ⟨_, rfl, p, rfl, ⟨us, SqT.of (sL _ _ hp)⟩, ?_⟩
    refine for_tup (K := K) (a := p) (xs := us) (fun i σ H' => ∃ (ri : Addr) (rv us' : List V) (y4 y5 y6 : Option V), σ = [some (.ref s), some (.ref p), some (.ref ri), some (.ref L), y4, y5, y6, none] ∧ i ≤ pre.length ∧ Same H H' ∧ H' ri = some (.lst rv) ∧ Paired (StopAt H') rv (remA S (pre.take i)) ∧ ri ≠ L ∧ H' L = some (.lst us') ∧ Paired (ObsAt H') us' (pre.take i))
      ⟨S.r, rv0, [], _, _, _, rfl, Nat.zero_le _, sL, sL _ _ h7, by rw [List.take_zero, remA_nil]; exact Paired.mapP h8 fun _ _ z => z.keep (tk_of sL), ne_of_none h7 nL, upd_same, .nil⟩ (fun i σ H' _ ⟨_, _, _, _, _, _, _, _, e, _⟩ => SqT.of (e _ _ hp)) ?_ ?_
    · rintro i v σ H2 hi ⟨ri, rv, us', y4, y5, y6, rfl, ip, s2, hri, hrv, nri, hL2, hus2⟩
      by_cases cl : i < pre.length
      rotate_left
      · have e0 : i = us0.length := by omega
        have e1 : us[i]? = some (.ref ub) := by rw [eus, e0, List.getElem?_append_right (Nat.le_refl _), Nat.sub_self]; rfl
        obtain rfl : v = .ref ub := Option.some.inj (hi.symm.trans e1)
        have hu2 := s2 _ _ hub
        have N2 := W0.net.same s2
        refine ⟨ub, _, rfl, SqT.of hu2, rfl, _, _, rfl, _, _, rfl, _, _, rfl, rfl, ?_⟩
        rcases bad with ⟨n, rfl⟩ | ⟨m, n, rfl⟩ | ⟨m, n, od, rfl⟩
        · exact ⟨_, rfl, s, O, dx, _, _, rfl, s2 _ _ h1, T.cl, T.nN, wf_n, _, rfl, _, rfl, .inr ⟨S.x, S.t, S.p, S.h, a0, d0, S.os, S.F, rfl, N2, .inl ⟨n, q _ s2⟩⟩⟩
        · exact ⟨_, rfl, s, O, dx, _, _, rfl, s2 _ _ h1, T.cl, T.nN, wf_n, _, rfl, _, rfl, .inr ⟨S.x, S.t, S.p, S.h, a0, d0, S.os, S.F, rfl, N2, .inr ⟨m, n, q _ s2⟩⟩⟩
        · obtain ⟨a1, rfl⟩ : ∃ n : Nat, a0 = n := ⟨a0.toNat, by omega⟩
          obtain ⟨d1, rfl⟩ : ∃ n : Nat, d0 = n := ⟨d0.toNat, by omega⟩
          refine ⟨_, rfl, s, O, dx, _, _, rfl, s2 _ _ h1, T.cl, T.nN, wf_n, _, rfl, _, rfl, .inl ⟨S.x, S.t, S.p, S.h, a1, d1, S.os, S.F, rfl, N2, by omega, by omega, ?_⟩⟩
          exact ⟨_, rfl, s, O, dx, _, _, rfl, s2 _ _ h1, T.cl, T.nN, wf_n, _, rfl, .inr ⟨S.x, S.t, S.p, S.h, S.os, S.F, y0, rfl, N2, od.same s2, q _ s2⟩⟩
      obtain ⟨b, v', hv', hc, hm, eb⟩ : ∃ b v', us[i]? = some v' ∧ ObsAt H v' b ∧ (b.1.1 < S.h ∧ b.1.2 ≤ 1000000000000000000 ∧ ∀ c, b.2 = some c → c.1 < S.h) ∧ pre[i]? = some b := by
        have e1 := List.getElem?_eq_getElem cl
        obtain ⟨v', hv', hc⟩ := Paired.get? (i := i) hus e1
        exact ⟨_, v', by rw [eus, List.getElem?_append_left (by omega)]; exact hv', hc, hob _ (List.getElem_mem cl), e1⟩
      obtain rfl : v' = v := Option.some.inj (hv'.symm.trans hi)
      obtain ⟨u, y, rfl, hu1, hy⟩ := hc
      obtain ⟨b1, b2, b3⟩ := hm
      have hu2 := s2 _ _ hu1
      have hy2 := OptStop.keep (tk_of s2) hy
      refine ⟨u, _, rfl, SqT.of hu2, rfl, _, _, rfl, _, _, rfl, _, _, rfl, rfl, ?_⟩
      refine ⟨_, rfl, s, O, dx, _, _, rfl, s2 _ _ h1, T.cl, T.nN, wf_n, _, rfl, _, rfl, .inl ⟨S.x, S.t, S.p, S.h, b.1.1, b.1.2, S.os, S.F, rfl, W0.net.same s2, b1, b2, ?_⟩⟩
      refine ⟨_, rfl, s, O, dx, _, _, rfl, s2 _ _ h1, T.cl, T.nN, wf_n, _, rfl, .inl ⟨S.x, S.t, S.p, S.h, S.os, S.F, y, b.2, rfl, W0.net.same s2, W0.ok.h1, hy2, b3, ?_⟩⟩
      refine ⟨_, rfl, ri, rfl, ⟨_, SqL.of hri⟩, fun D nD => ?_⟩
      have nDri : ri ≠ D := ne_of_none hri nD
      have nDL : L ≠ D := ne_of_none hL2 nD
      have sD := same_upd (o := HO.lst []) nD
      refine lc_list (K := K) (a := ri) (xs := rv) (fun j H' => ∃ acc, Same H2 H' ∧ H' D = some (.lst acc) ∧ Paired (StopAt H') acc (((remA S (pre.take i)).take j).filter (okO S b)))
        ⟨[], sD, upd_same, .nil⟩ (fun j H' _ ⟨_, e, _⟩ => SqL.of (e _ _ hri)) ?_ ?_
      · rintro j x H3 hj ⟨acc, s3, hD3, hacc⟩
        have ltj : j < (remA S (pre.take i)).length := by rw [← hrv.length]; exact (List.getElem?_eq_some_iff.mp hj).1
        have ej := List.getElem?_eq_getElem ltj
        obtain ⟨x', hx', hxc⟩ := Paired.get? (i := j) hrv ej
        obtain rfl : x' = x := Option.some.inj (hx'.symm.trans hj)
        have hmem : (remA S (pre.take i))[j] ∈ S.rem := (List.mem_filter.mp (List.getElem_mem ltj)).1
        have e1 : ((remA S (pre.take i)).take (j + 1)).filter (okO S b) = ((remA S (pre.take i)).take j).filter (okO S b) ++ [(remA S (pre.take i))[j]].filter (okO S b) := by
          rw [List.take_add_one, ej, List.filter_append]
          rfl
        rw [e1]
        have la : acc.length ≤ 100 := by
          rw [hacc.length]
          have q1 := List.length_filter_le (okO S b) ((remA S (pre.take i)).take j)
          have q2 := List.length_take_le j (remA S (pre.take i))
          have q3 := remA_len (S := S) (obs := pre.take i)
          omega
        generalize (remA S (pre.take i))[j] = c at hxc hmem
        refine ⟨rfl, _, rfl, s, dx, _, rfl, s3 _ _ (s2 _ _ h1), wf_no (by decide +kernel) (by decide +kernel) (by decide +kernel) (by decide +kernel), _, rfl, _, rfl, _, rfl, s, S, x', c, b.1.1, b.1.2, rfl, (W0.same s2).same s3, hxc.keep (tk_of s3), W0.sub _ hmem, b1, fun H4 y4' s4 hy4 => ?_⟩
        refine ⟨_, rfl, _, _, opt_dp hy4, opt_dp (OptStop.keep (tk_of (s3.trans s4)) hy2), optD_shaped _, optD_shaped _, _, rfl, ?_⟩
        rw [optD_eqv]
        refine ite2 (fun t => ?_) (fun t => ?_)
        · have e2 : okO S b c = true := t
          rw [List.filter_cons_of_pos e2, List.filter_nil]
          have hD4 := s4 _ _ hD3
          have k6 : TupKeep H3 _ := (tk_of s4).trans (TupKeep.lst (o := HO.lst (acc ++ [x'])) hD4)
          have k7 : TupKeep H2 _ := (tk_of s3).trans k6
          refine ⟨_, rfl, acc, hD4, Nat.lt_of_le_of_lt la (small1000 (by omega)), acc ++ [x'], fun q o e => ?_, upd_same, Paired.snoc (Paired.mapP hacc fun _ _ z => z.keep k6) (hxc.keep k7)⟩
          rw [upd_ne (ne_of_none e nD)]
          exact s4 _ _ (s3 _ _ e)
        · have e2 : ¬ okO S b c = true := t
          rw [List.filter_cons_of_neg e2, List.filter_nil, List.append_nil]
          exact ⟨acc, s3.trans s4, s4 _ _ hD3, Paired.mapP hacc fun _ _ z => z.keep (tk_of s4)⟩
      · rintro H3 ⟨acc, s3, hD3, hacc⟩
        rw [hrv.length, List.take_of_length_le (Nat.le_refl _), ← remA_snoc] at hacc
        have s23 := s2.trans s3
        have tk1 : pre.take (i + 1) = pre.take i ++ [b] := by rw [List.take_add_one, eb]; rfl
        rw [← tk1] at hacc
        have rne1 := remA_take (i + 1) rne
        have ane : acc.isEmpty = false := by
          cases acc with
          | nil =>
            cases e : remA S (pre.take (i + 1)) with
            | nil => exact absurd e rne1
            | cons c r =>
              rw [e] at hacc
              cases hacc
          | cons => rfl
        refine ⟨_, rfl, true, .inl ⟨acc, SqL.of hD3, by rw [ane]; rfl⟩, iteF ?_⟩
        have hL3 := s3 _ _ hL2
        refine ⟨_, rfl, .inl ⟨rfl, _, SqL.of hL3⟩, _, rfl, _, rfl, _, rfl, (by show 3 ≤ sizeLine; decide), fun u' nu' => ?_⟩
        have su := same_upd (o := HO.tup [.int (b.1.1 : Nat), .int (b.1.2 : Nat), y]) nu'
        have nuL : u' ≠ L := (ne_of_none hL3 nu').symm
        have k6 : TupKeep H3 _ := (tk_of su).trans (TupKeep.lst (o := HO.lst (us' ++ [.ref u'])) (su _ _ hL3))
        have k7 : TupKeep H2 _ := (tk_of s3).trans k6
        refine ⟨L, _, _, rfl, rfl, su _ _ hL3, ?_, D, acc, _, _, _, _, rfl, cl, fun q o e => ?_, ?_, Paired.mapP hacc fun _ _ z => z.keep k6, nDL.symm, upd_same, ?_⟩
        · rw [hus2.length, List.length_take]
          exact small1000 (by omega)
        · rw [upd_ne (ne_of_none e nL)]
          exact su _ _ (s3 _ _ (s2 _ _ e))
        · exact (upd_ne nDL.symm).trans (su _ _ hD3)
        · exact (by rw [tk1]; exact Paired.snoc (Paired.mapP hus2 fun _ _ z => z.keep k7) ⟨u', y, rfl, (upd_ne nuL).trans upd_same, OptStop.keep k7 hy2⟩)
    · rintro σ H2 ⟨ri, rv, us', y4, y5, y6, rfl, ip, _⟩
      rw [eus, List.length_append, List.length_cons] at ip
      omega
  · obtain ⟨s, D, us, rfl, B0, q⟩ := h
    refine ⟨_, us, rfl, ?_, fun p np => ?_⟩
    · obtain ⟨_, _, _, _, _, _, _, _, _, _, _, _, _, _, _, _, ul⟩ := id B0
      exact Nat.le_of_lt (small1000 (by omega))
    have sp := same_upd (o := HO.tup us) np
    exact ⟨s, p, D, us, rfl, upd_same, B0.same sp, fun H' e => q H' (sp.trans e)⟩
theorem ok_w_seeB {f fA O C DH DD DR : Addr} {fd : FuncData} (F : Fun K "see" "Watcher.see" s_Watcher_see f fd) (T : WatT K O) (mA : Meth K O "see_all" fA) (GA : FnR P w K mg base (L2.CX P w) 5 fA (spWAllB O C DH DD DR)) : FnOk P w K mg base (L2.CX P w) 6 f fd P_Watcher_see (spWSeeB O C DH DD DR) := by
  refine F.okX sc_Watcher_see (fun vs H Q E h => ?_) (fun cdv A outer s0 H vs Q E hr h => ?_)
  · obtain ⟨s, D, S, a, d, y, rfl, _⟩ := h
    rfl
  · obtain ⟨s, D, S, a, d, y, rfl, W0, bad, rn, rl, q⟩ := h
    refine ⟨_, pss_one (ps_ret (pe_methR (E := E) (pv 0) T.cl mA GA hr (passes_call (takes_of rfl rfl rfl rfl) fun _ _ _ _ z => z) (pa_cons (pe_tup (pa_cons (pv 1) (pa_cons (pv 2) (pa_cons (pv 3) pa_nil)))) pa_nil))), ?_⟩
    obtain ⟨dx, h1⟩ := W0.ins
    refine ⟨_, rfl, s, dx, _, rfl, h1, wf_no (by decide +kernel) (by decide +kernel) (by decide +kernel) (by decide +kernel), _, rfl, _, rfl, _, rfl, (by show 3 ≤ sizeLine; decide), fun u nu => ?_⟩
    have su := same_upd (o := HO.tup [.int a, .int d, y]) nu
    exact ⟨s, D, [.ref u], rfl, ⟨S, ([] : List Obs), u, a, d, y, [], [], rfl, W0.same su, .nil, (fun b (hb : b ∈ ([] : List Obs)) => by cases hb), (by rw [remA_nil]; exact rn), upd_same, bad.same su, rl, by show 1 ≤ 500; decide⟩, fun H' e => q H' (su.trans e)⟩
theorem ok_w_initX {f fI O C D : Addr} {fd fdI : FuncData} (F : Fun K "__init__" "Watcher.__init__" s_Watcher_init f fd) (TN : NetT K C) (gI : mg "check_index" = some (.ref fI)) (kI : PySem.W.keepIn K (.ref fI) = true) (bI : Binds K fdI P_check_index []) (GI : FnOk P w K mg base (L2.CX P w) 3 fI fdI P_check_index (spChkIxV K D)) : FnOk P w K mg base (L2.CX P w) 4 f fd P_Watcher_init (spWInitX K O C D) := by
  refine F.okX sc_Watcher_init (fun vs H Q E h => ?_) (fun cdv A outer s0 H vs Q E hr h => ?_)
  · obtain ⟨s, x, t, p, h, os, F, v, rfl, _⟩ := h
    rfl
  · obtain ⟨s, x, t, p, h, os, F, v, rfl, N, hk, hw, q⟩ := h
    refine ⟨_, pss_cons (ps_expr (pe_call (E := E) GI hr (by rfl) gI kI bI .nil (passes_call (takes_of rfl rfl rfl rfl) fun _ _ _ _ z => z) (pa_cons (pe_fld (pv 1) rfl) (pa_cons (pv 2) pa_nil))))
      (pss_cons ps_never (pss_cons ps_never (pss_cons ps_never (pss_one ps_never)))), ?_⟩
    obtain ⟨dx0, fl, as, _, hx, ⟨ts, ht, hP⟩, _⟩ := id N
    exact ⟨_, rfl, x, C, dx0, _, _, rfl, hx, TN.cl, TN.nO, nf_or, _, rfl, t, v, ts, rfl, ht, hk, by rw [hP.length]; exact hw, q⟩
end
/-! ### o.m(), m a def with a star parameter -/
section
open PySem.Spec PyProof.Rows
theorem pe_methR0 {X : Cx} {CX : CXT} {k : Nat} {C f : Addr} {m : Str} {sp : Sp} {E : XK} {o : Expr} {ta : TE} {apos pos : Pos} {pl : Sem Bool} (he : PE X o ta) (c : Cls X.K C) (hm : Meth X.K C m f) (F : FnR X.prog X.w X.K X.mg X.base CX k f sp) (hr : Room k X.A) (hx : Passes CX X E)
    (ht : eval (.Call (.Attribute o m apos) [] [] pos) X.env = (eval o X.env >>= fun ov => standAt apos.atName >>= fun _ => holding [ov] (getMethod ov m pl) >>= fun p => callWith pos p.1 p.2 (backTo pos (starEach [] X.env)) (backToKw pos (keywordEach [] X.env))) := by rfl) :
    PE X (.Call (.Attribute o m apos) [] [] pos) (tMethR C m sp E ta tNil) := by
  refine ⟨fun pins s σ H Q I h => ?_⟩
  refine PySem.W.methodCall_KW (pl := pl) (thn (he.run pins s σ H _ I h) fun u s1 ⟨x, H1, I1, rx, a, dx, fs, ex, ea, l, q⟩ => ?_) ht
  subst ex
  obtain rfl : u = Value.ref a := rx
  refine getmeth_ok I1 ea c hm l ?_
  exact PySem.W.callWith_K0 (first := [.ref a]) I1.kIn hm.kp (wpAny_call (run_fnR (us := [.ref a]) (vs := [.ref a]) F hr hx I1 (.cons rfl .nil) q))
end
/-! ### for k, v in d.items() of a dict whose keys are tuples; dict(pairs) with such keys -/
section
open PySem.Spec PyProof.Rows
variable {X : Cx} {pins : List (Addr × Obj)} {σ : L2.St} {H : Hp} {s : Shared} {d : Addr} {o : Obj}
theorem frzT2 {kvs : List (List L2.Key × V)} (I : Inv X pins σ H s) (h : H d = some (.frz o (.dT kvs))) :
    (d == sysModules) = false ∧ s.heap.get? d = some o ∧ o.ExactDict ∧ ∃ (es : Array DictEntry) (ep : Nat), o.data = .dict es ep ∧ es.size = kvs.length ∧
      ∀ (i : Nat) (k : List L2.Key) (v : V), kvs[i]? = some (k, v) → ∃ (en : DictEntry) (q : Addr), es[i]? = some en ∧ en.key = .ref q ∧ H q = some (.tup (k.map kV)) ∧ RelV v en.val := by
  obtain ⟨hd, z, hs, xs, pr, o', es, ep, ho, hx, hdt, he, _⟩ := I.hok d _ h
  rw [hd] at ho
  cases ho
  refine ⟨hs, hd, hx, es, ep, hdt, ?_, fun i k v e => ?_⟩
  · have l1 : es.size = xs.length := size_of_entries he
    have l2 : kvs.length = xs.length := Paired.length pr
    omega
  · obtain ⟨b, hb, e1, e2, e3⟩ := paired_get pr e
    have q := entry_at he i
    rw [hb] at q
    exact ⟨_, b.2.1, q, rfl, e2, e3⟩
/-- the pairs, each a new tuple of the key's own tuple and the value -/
def ItiT (d : Addr) (o : Obj) (kvs : List (List L2.Key × V)) : It :=
  ⟨fun i H => H d = some (.frz o (.dT kvs)) ∧ i < kvs.length, fun i H x H' => ∃ T k v q, kvs[i]? = some (k, v) ∧ H q = some (.tup (k.map kV)) ∧ x = .ref T ∧ H T = none ∧ H' = L2.upd H T (.tup [.ref q, v]), fun i H => H d = some (.frz o (.dT kvs)) ∧ kvs.length ≤ i⟩
theorem turn_itemsT {P : Program} {w : World} {K : PySem.W.Frag} {es : Array DictEntry} {ep : Nat} {kvs : List (List L2.Key × V)} {elts : List Expr} {kk : Nat} {tpos : Pos} (it : Addr) (hod : o.data = .dict es ep) :
    Turn P w K (.Tuple elts kk tpos) (ItiT d o kvs) [it] it (fun i h => ∃ ok ov, IsItemIter h it d i kvs.length ep ok ov) where
  mem := by simp
  obj := fun i h st b hb => by
    have e : b = it := by simpa using hb
    subst e
    obtain ⟨ok, ov, e⟩ := st
    exact ⟨_, e, fun v z => nomatch z⟩
  keep := fun i h h' st k => let ⟨ok, ov, e⟩ := st; ⟨ok, ov, k it (by simp) _ e⟩
  item := by
    intro X hP hw hK hc i pins s σ H E I hf st hg
    subst hP hw hK
    obtain ⟨hd, hi⟩ := hg
    obtain ⟨hs, hgd, hx, es', ep', hdt, hsz, ent⟩ := frzT2 I hd
    obtain ⟨rfl, rfl⟩ := dict_ep hod hdt
    obtain ⟨⟨k, v⟩, hkv⟩ : ∃ p, kvs[i]? = some p := ⟨kvs[i], List.getElem?_eq_getElem hi⟩
    obtain ⟨en, q, hen, hkey, hq, hv⟩ := ent i k v hkv
    obtain ⟨ok, ov, he⟩ := st
    rw [← hsz] at he
    have hlt : it < s.heap.objs.size := Heap.lt_size he
    have hi' : i < es'.size := by omega
    have hen' : es'[i] = en := by
      rw [Array.getElem?_eq_getElem hi'] at hen
      exact Option.some.inj hen
    have raw : s.heap.DictRaw d es' ep' := ⟨o, hgd, hx, hdt⟩
    refine PySem.wpAny_pyNext_items_item_raw he raw hi' fun h' ho hT hz hk => ?_
    rw [hen'] at ho hT
    refine ⟨_, rfl, wpAny_letOwnedTupleGo_items (s := { s with heap := h' }) ho fun h'' he' sb => ?_⟩
    have hT2 : h''.get? s.heap.objs.size = some { cls := .type "tuple", data := .seq #[en.key, en.val] } := (sb.2 _ (Nat.ne_of_gt hlt)).trans hT
    have new : ObjOk X.prog X.w (L2.upd H s.heap.objs.size (.tup [.ref q, v])) h'' s.heap.objs.size (.tup [.ref q, v]) :=
      ⟨by show 2 ≤ sizeLine; decide, [en.key, en.val], .cons hkey (.cons hv .nil), ⟨_, hT2, rfl, _, rfl⟩⟩
    have I1 : Inv X pins σ (L2.upd H s.heap.objs.size (.tup [.ref q, v])) { s with heap := h'' } :=
      I.turnedNew (t' := s.toks) (ch := [it]) (fun b ob hb e => (sb.2 b (by simpa using hb)).trans (hk b ob (by simpa using hb) e)) hf (Nat.le_refl _) new
    refine ⟨.ref s.heap.objs.size, _, I1, rfl, ⟨_, k, v, q, hkv, hq, rfl, I.hok.fresh (Nat.le_refl _), rfl⟩, ⟨en.key, en.val, ?_⟩, fun b hb => ?_⟩
    · rw [← hsz]; exact he'
    · have e : b = it := by simpa using hb
      rw [e]
      exact (L2.upd_ne (Nat.ne_of_lt hlt)).trans (hf it (by simp)).1
  done := by
    intro X hP hw hK hc i pins s σ H E I hf st hg
    subst hP hw hK
    obtain ⟨hd, hi⟩ := hg
    obtain ⟨f0, f1, f2, f3, f4, f5⟩ := hf it (by simp)
    obtain ⟨hs, hgd, hx, es', ep', hdt, hsz, ent⟩ := frzT2 I hd
    obtain ⟨rfl, rfl⟩ := dict_ep hod hdt
    obtain ⟨ok, ov, he⟩ := st
    rw [← hsz] at he
    exact DT.endI (I.ok.hd hc) he ⟨o, hgd, hx, hdt⟩ (by omega) fun h' eb => ⟨rfl, I.turned (t' := s.toks) (fun b ob hb e => eb b ob hb e) f0 f1 f3 f4 f5⟩
  self := fun A i s Q E st h => let ⟨_, _, e⟩ := st; PySem.W.kcp_self e h
/-- the dict stays locked: it is a new one that nothing else reads -/
def iItemsTL (td : TE) : TI := fun σ H R => td σ H fun x H1 => ∃ d kvs, x = .ref d ∧ H1 d = some (.dT kvs) ∧ ∀ o, R (ItiT d o kvs) (L2.upd H1 d (.frz o (.dT kvs)))
theorem pi_itemsTL {e : Expr} {td : TE} {apos cpos : Pos} {elts : List Expr} {kk : Nat} {tpos : Pos} (he : PE X e td) (hbase : attributeBase e "items" X.env (eval e X.env) = eval e X.env := by rfl) (hline : (apos.endLine == cpos.line) = true := by rfl) :
    PI X (.Tuple elts kk tpos) (.Call (.Attribute e "items" apos) [] [] cpos) (iItemsTL td) := by
  refine ⟨fun pins s σ H R I h => ?_⟩
  refine wpAny_Call_method (T := "dict") (id := "dict.items") hbase rfl hline PySem.F.plainAttrs_dict PySem.F.slot_dict_items PySem.F.type_dict_items (thn (he.run pins s σ H _ I h) fun u s1 ⟨x, H1, I0, rx, d, kvs, ex, hd0, q⟩ => ?_)
  subst ex
  obtain rfl : u = Value.ref d := rx
  obtain ⟨o, I1⟩ := I0.lock hd0 True.intro
  have hd : (L2.upd H1 d (.frz o (.dT kvs))) d = some (.frz o (.dT kvs)) := L2.upd_same
  replace q := q o
  generalize L2.upd H1 d (.frz o (.dT kvs)) = H2 at I1 hd q
  obtain ⟨hs, hgd, hx, es, ep, hdt, hsz, ent⟩ := frzT2 I1 hd
  have raw : s1.heap.DictRaw d es ep := ⟨o, hgd, hx, hdt⟩
  have nd : o.dict = none := hx.2.1
  refine ⟨⟨o, hgd, hx.1⟩, fun a e => ⟨o, by cases e; exact hgd, nd⟩, ?_⟩
  have I2 : Inv X pins σ H2 { s1 with heap := s1.heap.push { cls := .type "dict_items", data := .fields #[.ref d] } } := I1.kept (t' := s1.toks) fun b ob q => Heap.get?_push_of_some _ q
  have fin : wpAny (model X.prog X.w) X.A (pyIter (.ref s1.heap.objs.size)) (PIE X pins σ (.Tuple elts kk tpos) R) X.xe { s1 with heap := s1.heap.push { cls := .type "dict_items", data := .fields #[.ref d] } } := by
    refine PySem.wpAny_pyIter_items_raw (d := d) ⟨_, Heap.get?_push_size _ rfl, rfl, rfl⟩ (⟨o, Heap.get?_push_of_some _ hgd, hx, hdt⟩ : Heap.DictRaw _ d es ep) (pi_one (tk := s1.toks) I2 _ (turn_itemsT _ hdt) ⟨.none, .none, ?_⟩ q)
    rw [← hsz]
    exact Heap.get?_push_size _ rfl
  show wpAny _ _ (callWith cpos (.builtin "dict.items") [.ref d] [] []) _ X.xe s1
  exact method_meetsIn PySem.F.slot_dict_items PySem.F.entry_dict_items rfl (PySem.evalArgs_none ⟨rfl, ⟨o, hgd, hx.1⟩, PySem.F.args_dict_items_1 _, _, DT.meetsItems (es := es) (ep := ep) hs, ⟨⟨o, hgd, hx, hdt⟩, fin⟩⟩)
end
/-- a comprehension over the items -/
theorem lc_itemsT {d : Addr} {o : Obj} {kvs : List (List L2.Key × V)} {g : TG} {tt : TT} {te : TE} {vs : List Nat} {σ : L2.St} {H1 : Hp} {D : Addr} {Qd : Hp → Prop} (Pv : Nat → Hp → Prop) (h0 : Pv 0 (L2.upd H1 D (.lst []))) (hl : ∀ i H, Pv i H → H d = some (.frz o (.dT kvs)))
    (hs : ∀ i k v q T H, kvs[i]? = some (k, v) → Pv i H → H q = some (.tup (k.map kV)) → H T = none → g (.ref T) (wipe σ vs) (L2.upd H T (.tup [.ref q, v])) fun σ2 H2 => wipe σ2 vs = wipe σ vs ∧ tt σ2 H2 fun b H3 =>
      if b = true then te σ2 H3 fun y H4 => ∃ acc, H4 D = some (.lst acc) ∧ acc.length < sizeLine ∧ Pv (i + 1) (L2.upd H4 D (.lst (acc ++ [y]))) else Pv (i + 1) H3) (hd : ∀ H, Pv kvs.length H → Qd H) :
    ∃ W : Nat → Nat → Hp → Prop, (∃ m, W 0 m (L2.upd H1 D (.lst []))) ∧ ∀ i m H, W i m H →
      ((ItiT d o kvs).stop i H ∧ Qd H) ∨ ((ItiT d o kvs).go i H ∧ ∃ Nx : Hp → Prop, (∀ H', Nx H' → ∃ m', m' < m ∧ W (i + 1) m' H') ∧ ∀ x H', (ItiT d o kvs).yld i H x H' → g x (wipe σ vs) H' fun σ2 H2 => wipe σ2 vs = wipe σ vs ∧ tt σ2 H2 fun b H3 =>
        if b = true then te σ2 H3 fun y H4 => ∃ acc, H4 D = some (.lst acc) ∧ acc.length < sizeLine ∧ Nx (L2.upd H4 D (.lst (acc ++ [y]))) else Nx H3) := by
  refine ⟨fun i m H => m + i = kvs.length ∧ Pv i H, ⟨kvs.length, rfl, h0⟩, ?_⟩
  rintro i m H ⟨e, p⟩
  have q := hl i H p
  by_cases c : i < kvs.length
  · refine .inr ⟨⟨q, c⟩, fun H' => Pv (i + 1) H', fun H' p' => ⟨m - 1, by omega, by omega, p'⟩, ?_⟩
    rintro x H' ⟨T, k, v, q, h1, h2, rfl, h3, rfl⟩
    exact hs i k v q T H h1 p h2 h3
  · refine .inl ⟨⟨q, by omega⟩, ?_⟩
    have : i = kvs.length := by omega
    exact hd H (this ▸ p)
/-! ### sorted(d) of a dict whose keys are tuples of numbers -/
section
open PySem.Spec PySem.Calls PyProof.Rows
open PySem.W (alike alikeAll dataLt minD AlikeAll AllAlike Sortable EachIs dataLe SortsAt dataKind each_map bound_map sortVals sortVals_length sortVals_data list_sort_vals)
def rSortKT {β : Type} (enc : β → PyData) (K : PySem.W.Frag) : List V → Hp → VK → Prop := fun vs H Q => ∃ (d : Addr) (kvs : List (List L2.Key × V)) (bs : List β) (R : V → β → Prop), vs = [V.ref d] ∧ H d = some (.dT kvs) ∧ (∀ ks, IsKeys H kvs ks → Paired R (ks.map V.ref) bs ∧ DpAll K H (ks.map V.ref) (bs.map enc)) ∧ AllAlike (bs.map enc) ∧ Sortable (bs.map enc) ∧ (∀ b ∈ bs, (enc b).depth ≤ 60) ∧
  ∀ ys p, Paired R ys (bs.mergeSort (dataLe false enc)) → H p = none → Q (.ref p) (L2.upd H p (.lst ys))
theorem collect_up {prog : Program} {w : World} {A : Around} {E : Value → Shared → Prop} {s : Shared} {T : String} {r d : Addr} {n : Nat} {M : Nat → Value → Prop} {G : Heap → Prop} {R : List Value → Shared → Prop}
    (KS : PySem.W.KdlSrc prog w T r d n M G) (calm : A.handled = none) (g : G s.heap) (small : n ≤ sizeLine)
    (q : ∀ (h2 : Heap) (t2 : Nat) (its : Array Value), (∀ c u, s.heap.get? c = some u → h2.get? c = some u) → s.heap.objs.size < h2.objs.size → ItemsOf M its n → R its.toList { s with heap := h2, toks := t2 }) :
    wpAny (model prog w) A (collect (.ref r)) R E s := by
  have low := KS.there _ g
  unfold collect
  refine wpAny_bind (wpAny_runValue (codeAny_builtin PyProof.Rows.entry_proto_collect' ?_)); rw [Around.under_plainId PySem.F.plain_proto_collect _]
  show wpAny _ A.in1 (newList [] >>= fun y => again (.builtin "list.__iadd__" ⟨[y, .ref r], []⟩)) _ _ s
  refine wpAny_bind (wpAny_newObj_type (wpAny_pure ⟨plainId_quiet PySem.F.plain_list_iadd _, codeAny_builtin PyProof.Rows.entry_list_iadd' ?_⟩))
  rw [Around.under_plainId PySem.F.plain_list_iadd _]
  have z0 : (s.heap.push { cls := .type "list", data := .seq ([] : List Value).toArray }).get? s.heap.objs.size = some { cls := .type "list", data := .seq #[] } :=
    Heap.get?_push_size _ rfl
  show wpAny _ A.in1 (Builtin.List.listExtendWith (.ref s.heap.objs.size) (.ref r) (.ref s.heap.objs.size)) _ _ _
  have ext := PySem.W.kdl_extend (A := A) (s := { s with heap := s.heap.push { cls := .type "list", data := .seq ([] : List Value).toArray } })
    (R := fun (y : Result) (s2 : Shared) => ∃ (h2 : Heap) (t2 : Nat) (its : Array Value) (m : Nat), y = .ok (.ret (.ref s.heap.objs.size)) ∧ s2 = { s with heap := h2, toks := t2 } ∧
      (∀ c u, s.heap.get? c = some u → h2.get? c = some u) ∧ h2.get? s.heap.objs.size = some { cls := .type "list", dict := none, data := .seq its m, slots := #[] } ∧ ItemsOf M its n)
    KS calm (KS.keep _ _ g fun c _ u e => Heap.get?_push_of_some _ e) s.heap.objs.size (Nat.ne_of_gt low.1) (Nat.ne_of_gt low.2) (.ref s.heap.objs.size) 0 z0
    (fun h2 t2 its m kp z1 it => ⟨h2, t2, its, m, rfl, rfl, fun c u e => kp c u (Nat.ne_of_lt (Heap.lt_size e)) (Heap.get?_push_of_some _ e), z1, it⟩) small
  refine wpAny_mono ext (fun fin s2 x => ?_) fun _ _ x => by obtain ⟨_, _, _, _, e, _⟩ := x; cases e
  cases fin with
  | done f =>
    obtain ⟨h2, t2, its, m, e, rfl, kp, z1, it⟩ := x
    cases e
    show wpAny _ A (load s.heap.objs.size >>= _) _ _ _
    exact wpAny_bind (wpAny_load z1 (wpAny_pure (q h2 t2 its kp (Heap.lt_size z1) it)))
  | again c =>
    refine ⟨x.1, codeAny_mono x.2 fun y s3 z => ?_⟩
    obtain ⟨h2, t2, its, m, rfl, rfl, kp, z1, it⟩ := z
    show wpAny _ A (load s.heap.objs.size >>= _) _ _ _
    exact wpAny_bind (wpAny_load z1 (wpAny_pure (q h2 t2 its kp (Heap.lt_size z1) it)))
theorem cr_sortedKT {β : Type} {X : Cx} (enc : β → PyData) (hc : X.calm = true) (hu : X.A.units + 65 < cLine) : CallR X (.builtin "sorted") (rSortKT enc X.K) := by
  intro pins s σ H vs us Q I r h
  obtain ⟨d, kvs, bs, R, rfl, hd, hR, hal, hk, hdp, q⟩ := h
  rw [Vals.ref1 r]
  obtain ⟨z, hs, ks, pr, o, es, ep, ho, hx, hdt, he, hn⟩ := dt_of I.hok hd
  have l1 : es.size = ks.length := size_of_entries he
  have l2 : kvs.length = ks.length := Paired.length pr
  have hh : X.A.handled = none := I.ok.hd hc
  refine call_function_entry kind_sorted plain_sorted entry_sorted (args_sorted1 _) ?_
  unfold Builtin.«sorted»
  refine wpAny_bind (m := checkCount "sorted" 1 1 _) (wpAny_pure ?_)
  refine wpAny_bind (collect_up (A := X.A.in1) (kdl_raw hs hx hdt) hh ho (by omega) fun h' tk acc kp hlt it => ?_)
  have ea : acc.toList = (ks.map fun x => x.2.1).map Value.ref := by
    have hl : acc.toList.length = ks.length := by rw [Array.length_toList, it.1]; exact l1
    apply List.ext_getElem?
    intro j
    rw [List.map_map, List.getElem?_map]
    cases hj : acc.toList[j]? with
    | none =>
      have h1 := List.getElem?_eq_none_iff.mp hj
      rw [List.getElem?_eq_none (by omega)]
      all_goals rfl
    | some v =>
      obtain ⟨en, hen, hv⟩ := it.2 j v (by rw [← Array.getElem?_toList]; exact hj)
      have qe := entry_at he j
      rw [hen] at qe
      cases hb : ks[j]? with
      | none =>
        rw [hb] at qe
        exact nomatch (show some en = none from qe)
      | some b =>
        rw [hb] at qe
        have e2 : en = entryOfKey (tupleKind (mixKind X.prog X.w)) b := Option.some.inj qe
        rw [hv, e2]
        all_goals rfl
  have rv : Vals ((ks.map fun x => x.2.1).map V.ref) acc.toList := by rw [ea]; exact vals_refs _
  obtain ⟨pR, pD⟩ := hR _ (isKeys_of pr)
  generalize acc.toList = its at rv
  have hz : its.length ≤ sizeLine := by
    rw [← rv.length, List.length_map, List.length_map]
    omega
  refine wpAny_bind (wpAny_newList ?_ hz)
  replace hlt := Nat.le_of_lt hlt
  have hob : (h'.push (seqObj "list" its.toArray 0)).get? h'.objs.size = some (seqObj "list" its.toArray 0) := Heap.get?_push_size _ rfl
  have kb : ∀ b o, s.heap.get? b = some o → (h'.push (seqObj "list" its.toArray 0)).get? b = some o := fun b o e => Heap.get?_push_of_some _ (kp b o e)
  have nb : ∀ b o, s.heap.get? b = some o → b ≠ h'.objs.size := fun b o e => Nat.ne_of_lt (Nat.lt_of_lt_of_le (Heap.lt_size e) hlt)
  have e1 : EachIs (fun v b => ∃ x, RelV x v ∧ R x b) its bs := each_of rv pR pD fun x u b hr hx _ => ⟨x, hr, hx⟩
  have e2 : EachIs (fun v b => ∃ as, Reads s.heap v (enc b) as) its bs := each_of rv pR pD fun x u b hr _ hd => Dp.reads I _ _ _ hd hr
  show wpAny (model X.prog X.w) X.A.in1 (holding _ _ >>= _) _ _ { s with heap := h'.push (seqObj "list" its.toArray 0), toks := tk }
  generalize hh2 : h'.push (seqObj "list" its.toArray 0) = h2 at hob kb ⊢
  have e3 : EachIs (fun v b => ∃ as, Reads (PySem.W.sortingHeap h2 h'.objs.size its) v (enc b) as) its bs := e2.mono fun _ _ ⟨as, r⟩ => ⟨as, PyProof.Rows.Reads.keeps (fun b o e => PySem.W.sortingHeap_old (nb b o e) (kb b o e)) r⟩
  have hub : ∀ b, b ∈ bs → X.A.in1.in1.units + (enc b).depth < cLine := fun b hb => by
    have := hdp b hb
    show X.A.units + 1 + 1 + _ < cLine
    omega
  have ba := list_sort_vals (A := X.A.in1.in1) (prog := X.prog) (w := X.w) (s := { s with heap := h2, toks := tk }) (vs := its) (E := X.xe) (P := fun f s' => f = .done (.ret .none) ∧ EP X pins σ Q (.ref h'.objs.size) s') hob
    (SortsAt.data (s := { s with heap := PySem.W.sortingHeap h2 h'.objs.size its, toks := tk }) (each_map (R := fun v d => ∃ as, Reads (PySem.W.sortingHeap h2 h'.objs.size its) v d as) enc e3) hal hk (bound_map hub)) hz ⟨rfl, ?_⟩
  · refine wpAny_bind (wpAny_holding (wpAny_call_entry slot_list_sort ⟨_, hob, rfl⟩ entry_list_sort ?_ (args_list_sort _)))
    show wpAny (model X.prog X.w) X.A.in1.in1 (Builtin.«list.sort» ⟨[.ref h'.objs.size], []⟩) _ _ _
    refine wpAny_mono ba (fun f s' hf => ?_) fun _ _ e => e
    obtain ⟨rfl, hq⟩ := hf
    exact ⟨_, rfl, wpAny_pure ⟨_, rfl, hq⟩⟩
  · generalize hout : sortVals (dataKind (PySem.W.sortingHeap h2 h'.objs.size its) (bs.map enc)) false its its = out
    have eo : EachIs (fun v b => ∃ x, RelV x v ∧ R x b) out (bs.mergeSort (dataLe false enc)) := by
      rw [← hout]
      exact sortVals_data false e1 e3 hal
    obtain ⟨ys, h1, h2'⟩ := each_pairs (F := R) (fun v b ⟨x, a1, a2⟩ => ⟨x, a1, a2⟩) eo
    have ol : out.length = its.length := by rw [← hout]; exact sortVals_length false rfl
    obtain ⟨ef, he'⟩ := PyProof.Rows.sortedHeap_at (vs := its) (out := out.toArray) hob
    have kS : ∀ b o, s.heap.get? b = some o → (PyProof.Rows.sortedHeap h2 h'.objs.size its out.toArray).get? b = some o := fun b o e => (PyProof.Rows.sortedHeap_old (nb b o e) (Heap.lt_size (kb b o e))).trans (kb b o e)
    have hlen : ys.length ≤ sizeLine := by
      rw [h1.length, ol]
      exact hz
    exact ⟨.ref _, L2.upd H h'.objs.size (.lst ys), I.laid (t' := tk) kS hlt ⟨hlen, out, ef, h1, he'⟩, rfl, q ys _ h2' (I.hok.fresh hlt)⟩
end
/-! ### dict(pairs) whose keys are tuples -/
section
open PySem.Spec PySem.Calls PyProof.Rows
def mergeT (kvs : List (List L2.Key × V)) : List (List L2.Key × V) := kvs.foldl (fun a kv => putK a kv.1 kv.2) []
theorem kt_merge {H : Hp} : ∀ {kvs : List (List L2.Key × V)} {xs : List (List L2.Key × Addr × Value)} {acc : List (List L2.Key × V)} {ax : List (List L2.Key × Addr × Value)}, KT H acc ax → KT H kvs xs → KT H (kvs.foldl (fun a kv => putK a kv.1 kv.2) acc) (PySem.storedAllH ax xs)
  | _, _, _, _, h, .nil => h
  | _, _, _, ax, h, .cons (a := p) (b := q) (l₂ := xs) r t => by
    have e := r.1
    have h1 := KT.put h p.1 r.2.1 r.2.2
    rw [e] at h1
    have h2 := kt_merge h1 t
    rw [← e] at h2
    rw [List.foldl_cons]
    show KT H _ (PySem.storedAllH (storedH ax q.1 q.2.1 q.2.2) xs)
    rw [← e]
    exact h2
theorem putK_len (a : List (List L2.Key × V)) (k : List L2.Key) (v : V) : (putK a k v).length ≤ a.length + 1 := by
  unfold putK
  split
  · rw [List.length_map]; omega
  · rw [List.length_append]; exact Nat.le_refl _
theorem merge_len : ∀ (kvs acc : List (List L2.Key × V)), (kvs.foldl (fun a kv => putK a kv.1 kv.2) acc).length ≤ acc.length + kvs.length
  | [], _ => Nat.le_refl _
  | kv :: r, acc => by
    have h1 := merge_len r (putK acc kv.1 kv.2)
    have h2 := putK_len acc kv.1 kv.2
    rw [List.foldl_cons, List.length_cons]
    omega
def PrT (K : PySem.W.Frag) (H : Hp) (p : Addr) (kv : List L2.Key × V) : Prop := ∃ q, SqT K H p [.ref q, kv.2] ∧ H q = some (.tup (kv.1.map kV))
theorem pairsT_of {X : Cx} {pins : List (Addr × Obj)} {σ : L2.St} {H : Hp} {s : Shared} (I : Inv X pins σ H s) : ∀ {ps : List Addr} {kvs : List (List L2.Key × V)}, Paired (PrT X.K H) ps kvs →
    ∃ prs : List (List L2.Key × Addr × Value), KT H kvs prs ∧ prs.length = ps.length ∧ ∀ (j : Nat) (q : List L2.Key × Addr × Value), prs[j]? = some q → ∃ b : Addr, ps[j]? = some b ∧ IsTup s.heap b #[.ref q.2.1, q.2.2]
  | _, _, .nil => ⟨[], .nil, rfl, fun j q e => by simp at e⟩
  | _, _, .cons (a := p) (b := kv) h t => by
    obtain ⟨prs, r, hl, hp⟩ := pairsT_of I t
    obtain ⟨q, h1, h2⟩ := h
    obtain ⟨its, rv, ht, _⟩ := I.tuple h1
    obtain ⟨u, y, ei, ru, ry⟩ := vals2 rv
    subst ei
    cases ru
    refine ⟨(kv.1, q, y) :: prs, .cons ⟨rfl, h2, ry⟩ r, by rw [List.length_cons, List.length_cons, hl], fun j z e => ?_⟩
    cases j with
    | zero =>
      have e' : (kv.1, q, y) = z := Option.some.inj e
      subst e'
      exact ⟨p, rfl, ht⟩
    | succ j =>
      obtain ⟨b, e1, e2⟩ := hp j z (by simpa using e)
      exact ⟨b, by simpa using e1, e2⟩
def rDictPT (K : PySem.W.Frag) : List V → Hp → VK → Prop := fun xs H Q => ∃ (a : Addr) (ps : List Addr) (kvs : List (List L2.Key × V)), xs = [.ref a] ∧ SqL K H a (ps.map V.ref) ∧ Paired (PrT K H) ps kvs ∧ ∀ p, H p = none → Q (.ref p) (L2.upd H p (.dT (mergeT kvs)))
theorem call_dictPT {X : Cx} (hc : X.calm = true) (hu : X.A.units + 2 < cLine) : CallR X (.type "dict") (rDictPT X.K) := by
  intro pins s σ H xs us Q I r q
  obtain ⟨a, ps, kvs, ex, hq, hp, q⟩ := q
  subst ex
  obtain ⟨u, eu, rx⟩ := vals1 r
  subst eu
  cases rx
  obtain ⟨its, rv, pl, hz⟩ := I.list hq
  have ei := refs_at rv
  subst ei
  rw [List.length_map] at hz
  obtain ⟨prs, rel, hl, hpr⟩ := pairsT_of I hp
  obtain ⟨o, n, ho, hcl, hd, hdat⟩ := pl
  let vps : List (Value × Value) := prs.map fun x => (Value.ref x.2.1, x.2.2)
  have vl : vps.length = prs.length := List.length_map ..
  have ok : PySem.PlainSeq "list" s.heap a (ps.map Value.ref).toArray ∧ PySem.PairItems s.heap (ps.map Value.ref).toArray (fun j => ps.getD j 0) vps := by
    refine ⟨⟨o, n, ho, hcl, hd, hdat⟩, by simp [vl, hl], fun j k v e => ?_⟩
    obtain ⟨x, hx, ex⟩ := Option.map_eq_some_iff.mp ((List.getElem?_map (f := fun x : List L2.Key × Addr × Value => (Value.ref x.2.1, x.2.2)) (l := prs) (i := j)).symm.trans e)
    obtain ⟨b, hb, ht⟩ := hpr j x hx
    cases ex
    refine ⟨by simp [hb], .inl ?_⟩
    obtain ⟨ot, h1, h2, n2, h3⟩ := ht
    show s.heap.IsTuple (ps.getD j 0) #[Value.ref x.2.1, x.2.2]
    rw [List.getD_eq_getElem?_getD, hb]
    exact ⟨ot, h1, h2, n2, h3⟩
  have len : prs.length ≤ sizeLine := by rw [hl]; exact hz
  refine PySem.call_dict_pairsH (knd := tupleKind (mixKind X.prog X.w)) (ps := prs) (PySem.PairArg.list a (ps.map Value.ref).toArray (fun j => ps.getD j 0) vps) (I.ok.hd hc) (by show X.A.units + 1 + 1 < cLine; omega) ok ⟨vl.symm, fun i key v e => ?_⟩ (fun h' hk x hx => ?_) (by rw [vl]; exact len) fun h' tk hd' k => ?_
  · obtain ⟨x, hx, ex⟩ := Option.map_eq_some_iff.mp ((List.getElem?_map (f := fun x : List L2.Key × Addr × Value => (Value.ref x.2.1, x.2.2)) (l := prs) (i := i)).symm.trans e)
    cases ex
    exact ⟨x.1, x.2.1, hx, rfl⟩
  · have all : ∀ {l : List (List L2.Key × V)} {m : List (List L2.Key × Addr × Value)}, KT H l m → ∀ x ∈ m, IsTupleKey (mixKind X.prog X.w) s.heap x.1 x.2.1 := by
      intro l m q
      induction q with
      | nil => intro x hx; exact nomatch hx
      | cons hq _ ih =>
        intro x hx
        rcases List.mem_cons.mp hx with e | hx
        · subst e
          exact key_of I.hok (by rw [← hq.1]; exact hq.2.1)
        · exact ih x hx
    obtain ⟨ot, it, n2, h1, h2⟩ := all rel x hx
    exact ⟨ot, it, n2, hk _ _ (Nat.ne_of_lt (Heap.lt_size h1)) (by simp) h1, h2⟩
  · have hm : (s.heap.objs.size == sysModules) = false := beq_eq_false_iff_ne.mpr (Nat.ne_of_gt I.big)
    have hlen : (mergeT kvs).length ≤ sizeLine := by
      refine Nat.le_trans (merge_len kvs []) ?_
      have := Paired.length rel
      show 0 + _ ≤ _
      omega
    have hf := I.hok.fresh (Nat.le_refl s.heap.objs.size)
    have rel' : KT (L2.upd H s.heap.objs.size (.dT (mergeT kvs))) (mergeT kvs) (PySem.storedAllH [] prs) := (kt_merge .nil rel).keeps fun b ys e => (L2.upd_ne (L2.ne_of_none e hf)).trans e
    obtain ⟨o2, es, ep, g1, g2, g3, g4, g5, g6⟩ := hd'
    exact ⟨.ref s.heap.objs.size, L2.upd H s.heap.objs.size (.dT (mergeT kvs)), I.laid (t' := tk) (fun b o e => k b o (by simp) e) (Nat.le_refl _) (show ObjOk X.prog X.w _ _ _ (.dT (mergeT kvs)) from ⟨hlen, hm, PySem.storedAllH [] prs, rel', o2, es, ep, g1, g2, g3, g4, g6⟩), rfl, q _ hf⟩
end
/-! ### observations as data -/
theorem shL {ds : List PyData} (h : ∀ d ∈ ds, d.canLay0 = true ∧ d.depth ≤ 63) : PySem.SeqAt.shaped (.list ds) = true := by
  have h1 : PyData.canLayAll0 ds = true := by
    induction ds with
    | nil => simp [PyData.canLayAll0]
    | cons d r ih => simp [PyData.canLayAll0, (h d (List.mem_cons_self ..)).1, ih fun x hx => h x (List.mem_cons_of_mem _ hx)]
  have h2 : PyData.depthAll ds ≤ 63 := by
    clear h1
    induction ds with
    | nil => simp [PyData.depthAll]
    | cons d r ih =>
      have a := (h d (List.mem_cons_self ..)).2
      have b := ih fun x hx => h x (List.mem_cons_of_mem _ hx)
      simp only [PyData.depthAll]
      omega
  show (PyData.canLay0 (.list ds) && decide (PyData.depth (.list ds) ≤ 64)) = true
  rw [Bool.and_eq_true]
  refine ⟨by simp only [PyData.canLay0]; exact h1, decide_eq_true ?_⟩
  simp only [PyData.depth]
  omega
def obD (b : Obs) : PyData := .tuple [.int b.1.1, .int b.1.2, optD b.2]
theorem ob_dp {K : PySem.W.Frag} {H : Hp} {vs : List V} {ks : List Obs} (h : Paired (ObsAt H) vs ks) : DpAll K H vs (ks.map obD) := by
  induction h with
  | nil => exact .nil
  | cons r _ ih =>
    obtain ⟨u, y, rfl, hu, hy⟩ := r
    exact .cons (.tup (SqT.of hu) (.cons (.int _) (.cons (.int _) (.cons (opt_dp hy) .nil)))) ih
theorem ob_good (ks : List Obs) : ∀ d ∈ ks.map obD, d.canLay0 = true ∧ d.depth ≤ 63 := by
  intro d hd
  obtain ⟨k, _, rfl⟩ := List.mem_map.mp hd
  cases e : k.2 with
  | none => exact ⟨by simp [obD, e, optD, PyData.canLay0, PyData.canLayAll0], by simp [obD, e, optD, PyData.depth, PyData.depthAll]⟩
  | some q => exact ⟨by simp [obD, e, optD, plD, PyData.canLay0, PyData.canLayAll0], by simp [obD, e, optD, plD, PyData.depth, PyData.depthAll]⟩
theorem ob_nil (ks : List Obs) : PyData.eqv (.list (ks.map obD)) (.list []) = decide (ks = []) := by
  cases ks with
  | nil => simp [PyData.eqv, PyData.eqvAll]
  | cons k r => simp [PyData.eqv, PyData.eqvAll]
theorem obD_eqv (a b : Obs) : PyData.eqv (obD a) (obD b) = decide (a = b) := by
  unfold obD
  rw [PyData.eqv, PySem.W.eqv_all_cons, PySem.W.eqv_all_cons, PySem.W.eqv_all_cons, int_eqv, int_eqv, optD_eqv]
  obtain ⟨⟨a1, a2⟩, a3⟩ := a
  obtain ⟨⟨b1, b2⟩, b3⟩ := b
  by_cases c1 : a1 = b1 <;> by_cases c2 : a2 = b2 <;> by_cases c3 : a3 = b3 <;> simp [c1, c2, c3, PyData.eqvAll] <;> omega
theorem obs_eqvA : ∀ a b : List Obs, PyData.eqvAll (a.map obD) (b.map obD) = decide (a = b)
  | [], [] => by simp [PyData.eqvAll]
  | [], _ :: _ => by simp [PyData.eqvAll]
  | _ :: _, [] => by simp [PyData.eqvAll]
  | x :: xs, y :: ys => by
    rw [List.map_cons, List.map_cons, PySem.W.eqv_all_cons, obD_eqv, obs_eqvA xs ys]
    by_cases c : x = y <;> by_cases d : xs = ys <;> simp [c, d]
theorem obs_eqv (a b : List Obs) : PyData.eqv (.list (a.map obD)) (.list (b.map obD)) = decide (a = b) := by
  rw [PyData.eqv]
  exact obs_eqvA a b
/-! ### k37's mathematics -/
structure Wp where
  p : Nat
  h : Nat
  os : List Od
  k : Nat
  o : Od
  F : List Addr
def Wp.res (Z : Wp) (hs dy : Nat) (c : Nat × Nat) : NK := dst Z.p Z.h (setO Z.os Z.k Z.o c) (hs, dy)
def Wp.ok (Z : Wp) (b : Obs) (c : Nat × Nat) : Bool := decide (Z.res b.1.1 b.1.2 c = b.2)
def Wp.rem (Z : Wp) (R : List (Nat × Nat)) (obs : List Obs) : List (Nat × Nat) := R.filter fun c => obs.all fun b => Z.ok b c
def WAt (O C : Addr) (H : Hp) (s : Addr) (Z : Wp) (R : List (Nat × Nat)) (A : List Obs) : Prop := ∃ S : WatS, WatAt O C H s S ∧ (⟨S.p, S.h, S.os, S.k, S.o, S.F⟩ : Wp) = Z ∧ S.rem = R ∧ S.acc = A
theorem rem_eq {S : WatS} {obs : List Obs} : remA S obs = Wp.rem ⟨S.p, S.h, S.os, S.k, S.o, S.F⟩ S.rem obs := rfl
theorem res_eq {S : WatS} {hs dy : Nat} : resL S hs dy = S.rem.map (Wp.res ⟨S.p, S.h, S.os, S.k, S.o, S.F⟩ hs dy) := rfl
theorem Wp.rem_rem {Z : Wp} {R : List (Nat × Nat)} {a b : List Obs} : Z.rem (Z.rem R a) b = Z.rem R (a ++ b) := by
  unfold Wp.rem
  rw [List.filter_filter]
  refine List.filter_congr fun c _ => ?_
  rw [List.all_append, Bool.and_comm]
theorem Wp.rem_perm {Z : Wp} {R : List (Nat × Nat)} {a b : List Obs} (h : a.Perm b) : Z.rem R a = Z.rem R b := by
  unfold Wp.rem
  refine List.filter_congr fun c _ => ?_
  rw [Bool.eq_iff_iff, List.all_eq_true, List.all_eq_true]
  exact ⟨fun q x hx => q x (h.mem_iff.mpr hx), fun q x hx => q x (h.mem_iff.mp hx)⟩
theorem Wp.rem_nil {Z : Wp} {R : List (Nat × Nat)} : Z.rem R [] = R := by
  unfold Wp.rem
  rw [List.filter_eq_self]
  exact fun _ _ => rfl
theorem Wp.rem_len {Z : Wp} {R : List (Nat × Nat)} {a : List Obs} : (Z.rem R a).length ≤ R.length := List.length_filter_le _ _
theorem set_self {os : List Od} {k : Nat} {o : Od} (h : os[k]? = some o) : setO os k o (o.t, o.e) = os := by
  have lt := (List.getElem?_eq_some_iff.mp h).1
  have e : os = os.take k ++ ([o] ++ os.drop (k + 1)) := by
    have e1 := (List.take_append_drop k os).symm
    rw [List.drop_eq_getElem_cons lt] at e1
    rw [← (List.getElem?_eq_some_iff.mp h).2]
    exact e1
  unfold setO
  rw [List.append_assoc]
  exact e.symm
/-- what the facts say is so -/
def Wp.true (Z : Wp) (b : Obs) : Prop := b.1.1 < Z.h ∧ b.1.2 ≤ 1000000000000000000 ∧ b.2 = dst Z.p Z.h Z.os b.1
theorem Wp.truth {Z : Wp} (ho : Z.os[Z.k]? = some Z.o) {R : List (Nat × Nat)} {obs : List Obs} (h : (Z.o.t, Z.o.e) ∈ R) (t : ∀ b ∈ obs, Z.true b) : (Z.o.t, Z.o.e) ∈ Z.rem R obs := by
  refine List.mem_filter.mpr ⟨h, ?_⟩
  rw [List.all_eq_true]
  intro b hb
  refine decide_eq_true ?_
  unfold Wp.res
  rw [set_self ho, (t b hb).2.2]
theorem truth_in {p h : Nat} {os : List Od} {k : Nat} {o : Od} (ok : NetOk p h os) (ho : os[k]? = some o) : (o.t, o.e) ∈ candsL h o.s := by
  obtain ⟨a1, a2, a3, a4, a5, a6, a7, a8⟩ := ok.ok o (List.mem_of_getElem? ho)
  unfold candsL rowC
  refine List.mem_flatMap.mpr ⟨o.t, List.mem_range.mpr a2, ?_⟩
  rw [if_neg (fun e => a3 e.symm)]
  exact List.mem_map.mpr ⟨o.e - 1, List.mem_range.mpr (by omega), by rw [show o.e - 1 + 1 = o.e by omega]⟩
theorem nd_len {α : Type} [DecidableEq α] : ∀ {l m : List α}, l.Nodup → (∀ x ∈ l, x ∈ m) → l.length ≤ m.length
  | [], _, _, _ => Nat.zero_le _
  | x :: l, m, nd, h => by
    have hx := h x List.mem_cons_self
    obtain ⟨n1, n2⟩ := List.nodup_cons.mp nd
    have ih := nd_len (m := m.erase x) n2 fun y hy => (List.mem_erase_of_ne (a := y) (b := x) (by intro e; rw [e] at hy; exact n1 hy)).mpr (h y (List.mem_cons_of_mem _ hy))
    rw [List.length_erase_of_mem hx] at ih
    have := List.length_pos_of_mem hx
    rw [List.length_cons]
    omega
theorem few_left {α β : Type} [DecidableEq β] {xs : List α} {f : α → β} {l : List β} {r : β} (nd : l.Nodup) (h : ∀ k ∈ l, k ∈ xs.map f) (hr : r ∈ l) : (xs.filter fun x => decide (f x = r)).length + l.length ≤ xs.length + 1 := by
  have e : xs.length = (xs.filter fun x => decide (f x = r)).length + (xs.filter fun x => !decide (f x = r)).length := by
    clear h
    induction xs with
    | nil => rfl
    | cons x t ih =>
      by_cases c : f x = r
      · rw [List.filter_cons_of_pos (by simp [c]), List.filter_cons_of_neg (by simp [c]), List.length_cons, List.length_cons]
        omega
      · rw [List.filter_cons_of_neg (by simp [c]), List.filter_cons_of_pos (by simp [c]), List.length_cons, List.length_cons]
        omega
  have i := nd_len (l := l.erase r) (m := (xs.filter fun x => !decide (f x = r)).map f) (nd.erase r) fun k hk => by
    obtain ⟨n1, n2⟩ := (nd.mem_erase_iff).mp hk
    obtain ⟨x, hx, e⟩ := List.mem_map.mp (h k n2)
    exact List.mem_map.mpr ⟨x, List.mem_filter.mpr ⟨hx, by simp [e, n1]⟩, e⟩
  rw [List.length_map, List.length_erase_of_mem hr] at i
  have := List.length_pos_of_mem hr
  omega
theorem ResOk.nd {l res : List NK} (r : ResOk l res) : l.Nodup := by
  obtain ⟨ds, rfl, p, _⟩ := r.ex
  have nd : ds.Nodup := p.imp fun {a b} q e => by
    rw [e] at q
    exact absurd q (by rw [ltS_no.mpr (by omega)]; exact Bool.false_ne_true)
  have nm : (ds.map some).Nodup := List.Pairwise.map some (fun a b n e => n (Option.some.inj e)) nd
  split
  · refine List.nodup_cons.mpr ⟨fun z => ?_, nm⟩
    obtain ⟨_, _, e⟩ := List.mem_map.mp z
    cases e
  · exact nm
theorem ResOk.one {l res : List NK} {r : NK} (q : ResOk l res) (h : ∀ k, k ∈ res ↔ k = r) : l = [r] := by
  have m : ∀ k, k ∈ l ↔ k = r := fun k => (q.mem k).trans (h k)
  have nd := q.nd
  match l, nd, m with
  | [], _, m => exact absurd ((m r).mpr rfl) (by simp)
  | [x], _, m => rw [(m x).mp (by simp)]
  | x :: y :: t, nd, m =>
    have e1 := (m x).mp (by simp)
    have e2 := (m y).mp (by simp)
    rw [e1, e2] at nd
    simp at nd
theorem rev_sorted {l l' : List Int} (h : l.Pairwise (fun a b => b ≤ a)) (p : l'.Perm l) (s : l'.Pairwise (· ≤ ·)) : l'.reverse = l := by
  have p2 : l'.reverse.Perm l := (List.reverse_perm l').trans p
  refine List.Perm.eq_of_pairwise (le := fun a b => b ≤ a) (fun a b _ _ h1 h2 => by omega) ?_ h p2
  rw [List.pairwise_reverse]
  exact s
/-! ### what the law asks of a watcher -/
theorem WAt.same {O C : Addr} {H H' : Hp} {s : Addr} {Z : Wp} {R : List (Nat × Nat)} {A : List Obs} (W : WAt O C H s Z R A) (e : Same H H') : WAt O C H' s Z R A := by
  obtain ⟨S, h, a, b, c⟩ := W
  exact ⟨S, h.same e, a, b, c⟩
theorem WAt.other {O C : Addr} {H H' : Hp} {s s' : Addr} {Z Z' : Wp} {R R' : List (Nat × Nat)} {A A' : List Obs} (W : WAt O C H s Z R A) (e : But s' H H') (n : s ≠ s') (W' : WAt O C H s' Z' R' A') : WAt O C H' s Z R A := by
  obtain ⟨S, h, a, b, c⟩ := W
  obtain ⟨S', h', _⟩ := W'
  exact ⟨S, h.other e n h', a, b, c⟩
theorem WAt.ins {O C : Addr} {H : Hp} {s : Addr} {Z : Wp} {R : List (Nat × Nat)} {A : List Obs} (W : WAt O C H s Z R A) : ∃ dx a b c d, H s = some (.ins O dx (WtFs a b c d)) := by
  obtain ⟨S, h, _⟩ := W
  obtain ⟨dx, h1⟩ := h.ins
  exact ⟨dx, _, _, _, _, h1⟩
theorem WAt.tk {O C : Addr} {H H' : Hp} {s : Addr} {Z : Wp} {R : List (Nat × Nat)} {A : List Obs} (W : WAt O C H s Z R A) (e : But s H H') : TupKeep H H' := by
  obtain ⟨dx, a, b, c, d, h⟩ := W.ins
  exact e.tki h
theorem dl_ne {H : Hp} {d r : Addr} {vs : List V} {R : V → Prop} (D : DAt H d) (h : H r = some (.lst vs)) (hv : ∀ v ∈ vs, ∃ u, v = .ref u) : r ≠ d := fun z => by
  obtain ⟨s, c, l, _, _, hd⟩ := D
  rw [← z, h] at hd
  have e := HO.lst.inj (Option.some.inj hd)
  have m : V.int (s : Nat) ∈ vs := by
    rw [e]
    exact List.mem_cons_self ..
  obtain ⟨u, e⟩ := hv _ m
  cases e
theorem paired_all {α : Type} {F : V → α → Prop} (hF : ∀ v a, F v a → ∃ u, v = .ref u) : ∀ {vs : List V} {l : List α}, Paired F vs l → ∀ v ∈ vs, ∃ u, v = .ref u
  | _, _, .nil, v, h => by cases h
  | _, _, .cons r t, v, h => by
    rcases List.mem_cons.mp h with z | z
    · rw [z]
      exact hF _ _ r
    · exact paired_all hF t v z
/-- a list changes that the watcher doesn't hold -/
theorem WatAt.butL {O C d : Addr} {H H' : Hp} {s : Addr} {S : WatS} {ds : List V} (h : WatAt O C H s S) (e : But d H H') (hd : H d = some (.lst ds)) (n1 : d ∉ S.F) (n2 : S.r ≠ d) (n3 : S.a ≠ d) : WatAt O C H' s S := by
  have tk : TupKeep H H' := fun c xs q => e c _ (ne_of q hd (by intro z; cases z)) q
  obtain ⟨dx, h1⟩ := h.ins
  obtain ⟨rv, h7, h8⟩ := h.rem
  obtain ⟨av, h10, h11⟩ := h.acc
  have ns : s ≠ d := ne_of h1 hd (by intro z; cases z)
  have nt : ∀ {b : Addr} {kvs : List (List Key × V)}, H b = some (.dT kvs) → b ≠ d := fun hb => ne_of hb hd (by intro z; cases z)
  exact ⟨⟨dx, e _ _ ns h1⟩, h.net.but e tk n1, h.ok, h.ord, ⟨e _ _ (nt h.ways.tab) h.ways.tab, h.ways.ne, fun c hc => by
    obtain ⟨ks, f, a, q⟩ := h.ways.ways c hc
    exact ⟨ks, f, ⟨e _ _ (nt a.tab) a.tab, a.nd, a.ok, fun q hq => (a.ways q hq).keep tk⟩, q⟩⟩, h.all, ⟨rv, e _ _ n2 h7, Paired.mapP h8 fun _ _ z => z.keep tk⟩, h.sub, ⟨av, e _ _ n3 h10, Paired.mapP h11 fun _ _ z => z.keep tk⟩⟩
theorem ints_ne {H : Hp} {d r : Addr} {vs : List V} {l : List Nat} (D : H d = some (.lst (nints l))) (h : H r = some (.lst vs)) (ne : vs ≠ []) (hv : ∀ v ∈ vs, ∃ u, v = .ref u) : r ≠ d := fun z => by
  rw [← z, h] at D
  have e := HO.lst.inj (Option.some.inj D)
  cases l with
  | nil => exact ne e
  | cons x t =>
    obtain ⟨u, q⟩ := hv (V.int (x : Nat)) (by rw [e]; exact List.mem_cons_self ..)
    cases q
theorem WAt.ints {O C d : Addr} {H H' : Hp} {s : Addr} {Z : Wp} {R : List (Nat × Nat)} {A : List Obs} {l : List Nat} (W : WAt O C H s Z R A) (e : But d H H') (hd : H d = some (.lst (nints l))) (hF : d ∉ Z.F) (hR : R ≠ []) (hA : A ≠ []) : WAt O C H' s Z R A := by
  obtain ⟨S, h, rfl, rfl, rfl⟩ := W
  obtain ⟨rv, h7, h8⟩ := h.rem
  obtain ⟨av, h10, h11⟩ := h.acc
  have m1 : rv ≠ [] := fun z => by
    rw [z] at h8
    have := h8.length
    cases q : S.rem with
    | nil => exact hR q
    | cons => rw [q] at this; cases this
  have m2 : av ≠ [] := fun z => by
    rw [z] at h11
    have := h11.length
    cases q : S.acc with
    | nil => exact hA q
    | cons => rw [q] at this; cases this
  exact ⟨S, h.butL e hd hF (ints_ne hd h7 m1 (paired_all (fun v a z => by obtain ⟨u, e, _⟩ := z; exact ⟨u, e⟩) h8)) (ints_ne hd h10 m2 (paired_all (fun v a z => by obtain ⟨u, _, e, _⟩ := z; exact ⟨u, e⟩) h11)), rfl, rfl, rfl⟩
/-- the law's w changes -/
theorem WAt.but {O C d : Addr} {H H' : Hp} {s : Addr} {Z : Wp} {R : List (Nat × Nat)} {A : List Obs} (W : WAt O C H s Z R A) (e : But d H H') (D : DAt H d) (hF : d ∉ Z.F) : WAt O C H' s Z R A := by
  obtain ⟨S, h, rfl, b, c⟩ := W
  have n1 : d ∉ S.F := hF
  have tk := e.tk D
  obtain ⟨dx, h1⟩ := h.ins
  obtain ⟨rv, h7, h8⟩ := h.rem
  obtain ⟨av, h10, h11⟩ := h.acc
  have n2 : S.r ≠ d := dl_ne (R := fun _ => True) D h7 (paired_all (fun v a z => by obtain ⟨u, e, _⟩ := z; exact ⟨u, e⟩) h8)
  have n3 : S.a ≠ d := dl_ne (R := fun _ => True) D h10 (paired_all (fun v a z => by obtain ⟨u, _, e, _⟩ := z; exact ⟨u, e⟩) h11)
  have ns : s ≠ d := fun z => by
    obtain ⟨_, _, _, _, _, hd⟩ := D
    rw [← z, h1] at hd
    cases hd
  have nt : ∀ {b : Addr} {kvs : List (List Key × V)}, H b = some (.dT kvs) → b ≠ d := fun {b kvs} hb z => by
    obtain ⟨_, _, _, _, _, hd⟩ := D
    rw [← z, hb] at hd
    cases hd
  exact ⟨S, ⟨⟨dx, e _ _ ns h1⟩, h.net.but e tk n1, h.ok, h.ord, ⟨e _ _ (nt h.ways.tab) h.ways.tab, h.ways.ne, fun c hc => by
    obtain ⟨ks, f, a, q⟩ := h.ways.ways c hc
    exact ⟨ks, f, ⟨e _ _ (nt a.tab) a.tab, a.nd, a.ok, fun q hq => (a.ways q hq).keep tk⟩, q⟩⟩, h.all, ⟨rv, e _ _ n2 h7, Paired.mapP h8 fun _ _ z => z.keep tk⟩, h.sub, ⟨av, e _ _ n3 h10, Paired.mapP h11 fun _ _ z => z.keep tk⟩⟩, rfl, b, c⟩
section
variable {O C s : Addr} {H : Hp} {Z : Wp} {R : List (Nat × Nat)} {A : List Obs} {Q : VK} {E : XK}
theorem use_see {y : V} {r : NK} {hs dy : Nat} (W : WAt O C H s Z R A) (hy : OptStop H y r) (h1 : hs < Z.h) (h2 : dy ≤ 1000000000000000000) (h3 : ∀ c, r = some c → c.1 < Z.h) (h4 : Z.rem R [((hs, dy), r)] ≠ []) (h5 : R.length ≤ 100) (h6 : A.length < 500)
    (q : ∀ H', But s H H' → WAt O C H' s Z (Z.rem R [((hs, dy), r)]) (A ++ [((hs, dy), r)]) → Q (.int (Z.rem R [((hs, dy), r)]).length) H') : spWSee O C [.ref s, .int hs, .int dy, y] H Q E := by
  obtain ⟨S, W, rfl, rfl, rfl⟩ := W
  exact ⟨s, S, hs, dy, y, r, rfl, W, hy, h1, h2, h3, h4, h5, h6, fun H' r' a b W' => q H' b ⟨_, W', rfl, rfl, rfl⟩⟩
theorem use_all {obs : List Obs} {us : List V} (W : WAt O C H s Z R A) (hy : Paired (ObsAt H) us obs) (h1 : ∀ b ∈ obs, b.1.1 < Z.h ∧ b.1.2 ≤ 1000000000000000000 ∧ ∀ c, b.2 = some c → c.1 < Z.h) (h4 : Z.rem R obs ≠ []) (h5 : R.length ≤ 100) (h6 : A.length + obs.length ≤ 500)
    (q : ∀ H', But s H H' → WAt O C H' s Z (Z.rem R obs) (A ++ obs) → Q (.int (Z.rem R obs).length) H') : spWAll O C (.ref s :: us) H Q E := by
  obtain ⟨S, W, rfl, rfl, rfl⟩ := W
  exact ⟨s, S, obs, us, rfl, W, hy, h1, h4, h5, h6, fun H' r' a b W' => q H' b ⟨_, W', rfl, rfl, rfl⟩⟩
theorem use_cands (W : WAt O C H s Z R A) (q : ∀ H' r vs', Same H H' → H r = none → H' r = some (.lst vs') → Paired (StopAt H') vs' R → Q (.ref r) H') : spWCands O C [.ref s] H Q E := by
  obtain ⟨S, W, rfl, rfl, rfl⟩ := W
  exact ⟨s, S, rfl, W, q⟩
theorem use_hist (W : WAt O C H s Z R A) (q : ∀ H' r vs', Same H H' → H r = none → H' r = some (.lst vs') → Paired (ObsAt H') vs' A → Q (.ref r) H') : spWHist O C [.ref s] H Q E := by
  obtain ⟨S, W, rfl, rfl, rfl⟩ := W
  exact ⟨s, S, rfl, W, q⟩
theorem use_ress {hs dy : Nat} (W : WAt O C H s Z R A) (h5 : R.length ≤ 100) (h1 : hs < Z.h) (h2 : dy ≤ 1000000000000000000)
    (q : ∀ H' r ws l, Same H H' → H r = none → H' r = some (.lst ws) → Paired (OptStop H') ws l → ResOk l (R.map (Z.res hs dy)) → l.length ≤ 101 → Q (.ref r) H') : spWRess O C [.ref s, .int hs, .int dy] H Q E := by
  obtain ⟨S, W, rfl, rfl, rfl⟩ := W
  exact ⟨s, S, hs, dy, rfl, W, h5, h1, h2, q⟩
theorem use_best {f : Nat} (W : WAt O C H s Z R A) (h4 : R ≠ []) (h5 : R.length ≤ 100) (h1 : f ≤ 1000000000000)
    (q : ∀ (H' : Hp) (r : Addr) (hs dy : Nat), Same H H' → H r = none → H' r = some (.tup [.int hs, .int dy]) → hs < Z.h → f ≤ dy → dy < f + Z.p → Q (.ref r) H') : spWBest O C [.ref s, .int f] H Q E := by
  obtain ⟨S, W, rfl, rfl, rfl⟩ := W
  exact ⟨s, S, f, rfl, W, h4, h5, h1, fun H' r hs dy s1 n hr b => q H' r hs dy s1 n hr b.hh b.lo b.hi⟩
end
theorem NetAt.wat {O C : Addr} {H H' : Hp} {s x t : Addr} {p h : Nat} {os : List Od} {F : List Addr} {Z : Wp} {R : List (Nat × Nat)} {A : List Obs} (N : NetAt C H x p h os t F) (b : But s H H') (W : WAt O C H s Z R A) : NetAt C H' x p h os t F := by
  obtain ⟨dx, _, _, _, _, h1⟩ := W.ins
  exact N.but b (b.tki h1) (wat_net (H' := s) N h1)
theorem nil_of {σ : L2.St} {H : Hp} {k : List V → Hp → Prop} (h : k [] H) : tNil σ H k := h
theorem len4 {α : Type} : ∀ {l : List α}, l.length = 4 → ∃ a b c d, l = [a, b, c, d]
  | [a, b, c, d], _ => ⟨a, b, c, d, rfl⟩
def Wp.lens (Z : Wp) (R : List (Nat × Nat)) (fs : List Obs) (n : Nat) : List Nat := (List.range n).map fun j => (Z.rem R (fs.take (j + 1))).length
theorem WAt.ne {O C b : Addr} {H : Hp} {s : Addr} {Z : Wp} {R : List (Nat × Nat)} {A : List Obs} {vs : List V} (W : WAt O C H s Z R A) (h : H b = some (.lst vs)) : b ≠ s := by
  obtain ⟨_, _, _, _, _, hi⟩ := W.ins
  exact ne_of h hi (by intro z; cases z)
theorem nself {x : V} : (!decide (x = x)) = false := by rw [decide_eq_true rfl]; rfl
theorem eqv_self {d : PyData} (h : PySem.SeqAt.shaped d = true) : (!PyData.eqv d d) = false := by rw [PySem.SeqAt.eqv_refl _ (PySem.SeqAt.canLay_of_shaped h)]; rfl
theorem op_any (l : List NK) (s : NK) : ((l.map optD).any fun z => PyData.eqv z (optD s)) = decide (s ∈ l) := by
  rw [List.any_map, Bool.eq_iff_iff, List.any_eq_true, decide_eq_true_iff]
  constructor
  · rintro ⟨x, hx, e⟩
    have e' : PyData.eqv (optD x) (optD s) = true := e
    rw [optD_eqv, decide_eq_true_iff] at e'
    rw [← e']
    exact hx
  · intro h
    refine ⟨s, h, ?_⟩
    show PyData.eqv (optD s) (optD s) = true
    rw [optD_eqv, decide_eq_true_iff]
theorem ops_dp {K : PySem.W.Frag} {H : Hp} {vs : List V} {l : List NK} (h : Paired (OptStop H) vs l) : DpAll K H vs (l.map optD) := by
  induction h with
  | nil => exact .nil
  | cons r _ ih => exact .cons (opt_dp r) ih
theorem ops_good (l : List NK) : ∀ d ∈ l.map optD, d.canLay0 = true ∧ d.depth ≤ 63 := by
  intro d hd
  obtain ⟨k, _, rfl⟩ := List.mem_map.mp hd
  cases k with
  | none => exact ⟨by simp [optD, PyData.canLay0], by simp [optD, PyData.depth]⟩
  | some q => exact ⟨by simp [optD, plD, PyData.canLay0, PyData.canLayAll0], by simp [optD, plD, PyData.depth, PyData.depthAll]⟩
theorem ni_at {l : List Nat} {k n : Nat} (h : l[k]? = some n) : (nints l)[k]? = some (.int n) := by
  unfold nints
  rw [List.getElem?_map, h]
  rfl
theorem lens_desc {Z : Wp} {R : List (Nat × Nat)} {fs : List Obs} {n : Nat} : ((Z.lens R fs n).map fun (n : Nat) => (n : Int)).Pairwise (fun a b => b ≤ a) := by
  unfold Wp.lens
  rw [List.map_map, List.pairwise_map]
  refine List.pairwise_lt_range.imp fun {a b} h => ?_
  show ((Z.rem R (fs.take (b + 1))).length : Int) ≤ ((Z.rem R (fs.take (a + 1))).length : Int)
  have e : fs.take (b + 1) = fs.take (a + 1) ++ (fs.take (b + 1)).drop (a + 1) := by
    have e1 := (List.take_append_drop (a + 1) (fs.take (b + 1))).symm
    rw [List.take_take, show min (a + 1) (b + 1) = a + 1 by omega] at e1
    exact e1
  rw [e, ← Wp.rem_rem]
  exact Int.ofNat_le.mpr Wp.rem_len
theorem Wp.res_truth {Z : Wp} (ho : Z.os[Z.k]? = some Z.o) {hs dy : Nat} : Z.res hs dy (Z.o.t, Z.o.e) = dst Z.p Z.h Z.os (hs, dy) := by
  unfold Wp.res
  rw [set_self ho]
/-! ### k36: the nets of all that a hidden order can be -/
theorem rowC_pw {s t n : Nat} : (rowC s t n).Pairwise fun a b => ltS a b = true := by
  unfold rowC
  split
  · exact .nil
  · rw [List.pairwise_map]
    refine List.pairwise_lt_range.imp fun {a b} h => ?_
    rw [ltS_iff]
    show t < t ∨ (t = t ∧ a + 1 < b + 1)
    omega
theorem candsL_pw {s : Nat} : ∀ n, (candsL n s).Pairwise fun a b => ltS a b = true
  | 0 => .nil
  | n + 1 => by
    unfold candsL
    rw [List.range_succ, List.flatMap_append, List.flatMap_singleton]
    refine List.pairwise_append.mpr ⟨candsL_pw n, rowC_pw, fun a ha b hb => ?_⟩
    have h1 := candsL_mem (n := n) (s := s) ha
    have h2 := (rowC_mem hb).1
    rw [ltS_iff]
    omega
theorem sort_pw {l : List (Nat × Nat)} (pw : l.Pairwise fun a b => ltS a b = true) : l.mergeSort (PySem.W.dataLe false plD) = l := List.mergeSort_of_pairwise (pw.imp fun {a b} q => by
  rw [PySem.W.dataLe_eq]
  show (!PySem.W.dataLt (plD b) (plD a)) = true
  rw [dataLt_pl]
  have i1 := ltS_iff.mp q
  have e : ltS b a = false := by
    rw [Bool.eq_false_iff]
    intro z
    have i2 := ltS_iff.mp z
    omega
  rw [e]
  rfl)
theorem candsL_sort {n s : Nat} : (candsL n s).mergeSort (PySem.W.dataLe false plD) = candsL n s := sort_pw (candsL_pw n)
theorem pw_nd {l : List (Nat × Nat)} (h : l.Pairwise fun a b => ltS a b = true) : l.Nodup := h.imp fun {a b} q e => by
  rw [e, ltS_iff] at q
  omega
structure LNets (C : Addr) (p h : Nat) (os : List Od) (k : Nat) (o : Od) (d : Addr) (H : Hp) (w : Addr) (cs : List ((Nat × Nat) × Addr)) : Prop where
  tab : H w = some (.dT (cs.map fun c => (keyC c.1, V.ref c.2)))
  nets : ∀ c ∈ cs, ∃ t F, NetAt C H c.2 p h (setO os k o c.1) t F ∧ d ∉ F
section
variable {C O : Addr} {p h : Nat} {os : List Od} {k : Nat} {o : Od} {d : Addr} {H H' : Hp} {w : Addr} {cs : List ((Nat × Nat) × Addr)}
theorem LNets.same (W : LNets C p h os k o d H w cs) (s : Same H H') : LNets C p h os k o d H' w cs :=
  ⟨s _ _ W.tab, fun c hc => by
    obtain ⟨t, F, N, n⟩ := W.nets c hc
    exact ⟨t, F, N.same s, n⟩⟩
theorem LNets.but (W : LNets C p h os k o d H w cs) (b : But d H H') (D : DAt H d) : LNets C p h os k o d H' w cs :=
  ⟨b _ _ (fun z => by
    obtain ⟨_, _, _, _, _, hd⟩ := D
    rw [← z, W.tab] at hd
    cases hd) W.tab, fun c hc => by
    obtain ⟨t, F, N, n⟩ := W.nets c hc
    exact ⟨t, F, N.but b (b.tk D) n, n⟩⟩
theorem LNets.wat (W : LNets C p h os k o d H w cs) {s : Addr} {Z : Wp} {R : List (Nat × Nat)} {A : List Obs} (b : But s H H') (A0 : WAt O C H s Z R A) : LNets C p h os k o d H' w cs :=
  ⟨b _ _ (fun z => by
    obtain ⟨_, _, _, _, _, hi⟩ := A0.ins
    rw [← z, W.tab] at hi
    cases hi) W.tab, fun c hc => by
    obtain ⟨t, F, N, n⟩ := W.nets c hc
    exact ⟨t, F, N.wat b A0, n⟩⟩
theorem LNets.get (W : LNets C p h os k o d H w cs) {c : Nat × Nat} (hc : c ∈ cs.map (·.1)) : ∃ x t F, valV (cs.map fun c => (keyC c.1, V.ref c.2)) (keyC c) = some (.ref x) ∧ NetAt C H x p h (setO os k o c) t F := by
  obtain ⟨x, h1, h2⟩ := valC_some hc
  obtain ⟨t, F, N, _⟩ := W.nets _ h1
  exact ⟨x, t, F, h2, N⟩
/-- d[key] of these nets -/
theorem LNets.dget (W : LNets C p h os k o d H w cs) {c : Nat × Nat} {v : V} (hc : c ∈ cs.map (·.1)) (hv : StopAt H v c) : ∃ x t F, DGet H w v (some (.ref x)) ∧ NetAt C H x p h (setO os k o c) t F := by
  obtain ⟨x, t, F, h1, N⟩ := W.get hc
  obtain ⟨u, rfl, hu⟩ := hv
  refine ⟨x, t, F, ?_, N⟩
  rw [← h1]
  exact DGet.t W.tab (k := keyC c) hu
end
theorem mergeT_nd : ∀ {kvs : List (List L2.Key × V)}, (kvs.map (·.1)).Nodup → mergeT kvs = kvs := by
  have g : ∀ (kvs acc : List (List L2.Key × V)), ((acc ++ kvs).map (·.1)).Nodup → kvs.foldl (fun a kv => putK a kv.1 kv.2) acc = acc ++ kvs := by
    intro kvs
    induction kvs with
    | nil => intro acc _; simp
    | cons x r ih =>
      intro acc h
      rw [List.foldl_cons]
      have e : putK acc x.1 x.2 = acc ++ [x] := by
        unfold putK
        rw [if_neg]
        intro z
        obtain ⟨y, hy, e⟩ := List.any_eq_true.mp z
        rw [List.map_append, List.nodup_append] at h
        exact h.2.2 y.1 (List.mem_map_of_mem hy) x.1 (List.mem_map_of_mem List.mem_cons_self) (of_decide_eq_true e)
      rw [e, ih (acc ++ [x]) (by rw [List.append_assoc]; exact h), List.append_assoc]
      rfl
  intro kvs h
  exact g kvs [] h
theorem keysC_nd {cs : List ((Nat × Nat) × Addr)} (h : (cs.map (·.1)).Nodup) : ((cs.map fun c => (keyC c.1, V.ref c.2)).map (·.1)).Nodup := by
  rw [List.map_map]
  have e : (cs.map ((fun x : List L2.Key × V => x.1) ∘ fun c => (keyC c.1, V.ref c.2))) = (cs.map (·.1)).map keyC := by rw [List.map_map]; rfl
  rw [e]
  exact List.Pairwise.map keyC (fun a b n z => n (keyC_inj z)) h
/-! the letter that tells most -/
def Wp.wst (Z : Wp) (R : List (Nat × Nat)) (hs dy : Nat) : Nat := wstL (R.map (Z.res hs dy))
structure WBest (Z : Wp) (R : List (Nat × Nat)) (f hs dy : Nat) : Prop where
  hh : hs < Z.h
  lo : f ≤ dy
  hi : dy < f + Z.p
  best : ∀ hs' dy', hs' < Z.h → f ≤ dy' → dy' < f + Z.p → Z.wst R hs dy < Z.wst R hs' dy' ∨ (Z.wst R hs dy = Z.wst R hs' dy' ∧ (hs < hs' ∨ (hs = hs' ∧ dy ≤ dy')))
theorem use_best2 {O C s : Addr} {H : Hp} {Z : Wp} {R : List (Nat × Nat)} {A : List Obs} {Q : VK} {E : XK} {f : Nat} (W : WAt O C H s Z R A) (h4 : R ≠ []) (h5 : R.length ≤ 100) (h1 : f ≤ 1000000000000)
    (q : ∀ (H' : Hp) (r : Addr) (hs dy : Nat), Same H H' → H r = none → H' r = some (.tup [.int hs, .int dy]) → WBest Z R f hs dy → Q (.ref r) H') : spWBest O C [.ref s, .int f] H Q E := by
  obtain ⟨S, W, rfl, rfl, rfl⟩ := W
  exact ⟨s, S, f, rfl, W, h4, h5, h1, fun H' r hs dy s1 n hr b => q H' r hs dy s1 n hr ⟨b.hh, b.lo, b.hi, b.best⟩⟩
def Wp.rowB (Z : Wp) (R : List (Nat × Nat)) (f hs n : Nat) : List (Nat × Nat × Nat) := (List.range n).map fun i => (Z.wst R hs (f + i), hs, f + i)
def Wp.allB (Z : Wp) (R : List (Nat × Nat)) (f n : Nat) : List (Nat × Nat × Nat) := (List.range n).flatMap fun hs => Z.rowB R f hs Z.p
theorem Wp.rowB_succ {Z : Wp} {R : List (Nat × Nat)} {f hs n : Nat} : Z.rowB R f hs (n + 1) = Z.rowB R f hs n ++ [(Z.wst R hs (f + n), hs, f + n)] := by
  unfold Wp.rowB
  rw [List.range_succ, List.map_append]
  rfl
theorem Wp.allB_succ {Z : Wp} {R : List (Nat × Nat)} {f n : Nat} : Z.allB R f (n + 1) = Z.allB R f n ++ Z.rowB R f n Z.p := by
  unfold Wp.allB
  rw [List.range_succ, List.flatMap_append, List.flatMap_singleton]
theorem Wp.rowB_len {Z : Wp} {R : List (Nat × Nat)} {f hs n : Nat} : (Z.rowB R f hs n).length = n := by
  unfold Wp.rowB
  rw [List.length_map, List.length_range]
theorem Wp.allB_len {Z : Wp} {R : List (Nat × Nat)} {f : Nat} : ∀ {n : Nat}, (Z.allB R f n).length = n * Z.p
  | 0 => by rw [Nat.zero_mul]; rfl
  | n + 1 => by rw [Wp.allB_succ, List.length_append, Wp.allB_len, Wp.rowB_len, Nat.succ_mul]
theorem Wp.mem_allB {Z : Wp} {R : List (Nat × Nat)} {f n : Nat} {z : Nat × Nat × Nat} : z ∈ Z.allB R f n ↔ z.2.1 < n ∧ f ≤ z.2.2 ∧ z.2.2 < f + Z.p ∧ z.1 = Z.wst R z.2.1 z.2.2 := by
  unfold Wp.allB Wp.rowB
  rw [List.mem_flatMap]
  constructor
  · rintro ⟨hs, h1, h2⟩
    obtain ⟨i, hi, rfl⟩ := List.mem_map.mp h2
    have h3 := List.mem_range.mp h1
    have h4 := List.mem_range.mp hi
    exact ⟨h3, by show f ≤ f + i; omega, by show f + i < f + Z.p; omega, rfl⟩
  · rintro ⟨h1, h2, h3, h4⟩
    refine ⟨z.2.1, List.mem_range.mpr h1, List.mem_map.mpr ⟨z.2.2 - f, List.mem_range.mpr (by omega), ?_⟩⟩
    have e : f + (z.2.2 - f) = z.2.2 := by omega
    rw [e]
    exact Prod.ext h4.symm rfl
theorem WBest.is_min {Z : Wp} {R : List (Nat × Nat)} {f hs dy : Nat} {z : Nat × Nat × Nat} {zs : List (Nat × Nat × Nat)} (b : WBest Z R f hs dy) (e : Z.allB R f Z.h = z :: zs) : minB z zs = (Z.wst R hs dy, hs, dy) := by
  obtain ⟨h1, h2⟩ := minB_spec zs z
  rw [← e] at h1 h2
  obtain ⟨a1, a2, a3, a4⟩ := Wp.mem_allB.mp h1
  have q := ltB_no.mp (h2 (Z.wst R hs dy, hs, dy) (Wp.mem_allB.mpr ⟨b.hh, b.lo, b.hi, rfl⟩))
  have r := b.best _ _ a1 a2 a3
  rw [← a4] at r
  generalize minB z zs = m at *
  have q' : ¬ (Z.wst R hs dy < m.1 ∨ (Z.wst R hs dy = m.1 ∧ (hs < m.2.1 ∨ (hs = m.2.1 ∧ dy < m.2.2)))) := q
  refine Prod.ext ?_ (Prod.ext ?_ ?_)
  · show m.1 = Z.wst R hs dy; omega
  · show m.2.1 = hs; omega
  · show m.2.2 = dy; omega
theorem wstL_max {l : List NK} {m : Nat} (h1 : ∃ k ∈ l, m = l.count k) (h2 : ∀ k ∈ l, l.count k ≤ m) : m = wstL l := by
  unfold wstL
  obtain ⟨f1, f2, f3⟩ := fmax_spec (l.map fun k => l.count k) 0
  obtain ⟨k, hk, e⟩ := h1
  have a := f3 _ (List.mem_map_of_mem (f := fun k => l.count k) hk)
  rcases f1 with z | z
  · omega
  · obtain ⟨k2, hk2, e2⟩ := List.mem_map.mp z
    have := h2 k2 hk2
    omega
theorem count_le_wst {l : List NK} {k : NK} : l.count k ≤ wstL l := by
  unfold wstL
  by_cases c : k ∈ l
  · exact (fmax_spec (l.map fun k => l.count k) 0).2.2 _ (List.mem_map_of_mem (f := fun k => l.count k) c)
  · rw [List.count_eq_zero.mpr c]
    exact Nat.zero_le _
theorem Wp.rem1 {Z : Wp} {R : List (Nat × Nat)} {hs dy : Nat} {r : NK} : (Z.rem R [((hs, dy), r)]).length = (R.map (Z.res hs dy)).count r := by
  unfold Wp.rem Wp.ok
  rw [List.count, List.countP_map, List.countP_eq_length_filter]
  congr 1
  refine List.filter_congr fun c _ => ?_
  rw [List.all_cons, List.all_nil, Bool.and_true]
  show decide (Z.res hs dy c = r) = (Z.res hs dy c == r)
  rw [Bool.eq_iff_iff, decide_eq_true_iff, beq_iff_eq]
theorem Wp.rem_sub {Z : Wp} {R : List (Nat × Nat)} {A : List Obs} {c : Nat × Nat} (h : c ∈ Z.rem R A) : c ∈ R := (List.mem_filter.mp h).1
theorem count_opt (l : List NK) (k : NK) : ((l.map optD).countP fun z => PyData.eqv z (optD k)) = l.count k := by
  rw [List.countP_map]
  unfold List.count
  congr 1
  funext x
  show PyData.eqv (optD x) (optD k) = (x == k)
  rw [optD_eqv, Bool.eq_iff_iff, decide_eq_true_iff, beq_iff_eq]
def PrA (H : Hp) (p : Addr) (c : (Nat × Nat) × Addr) : Prop := ∃ q, H p = some (.tup [.ref q, .ref c.2]) ∧ H q = some (.tup ((keyC c.1).map kV))
theorem PrA.keep {H H' : Hp} {p : Addr} {c : (Nat × Nat) × Addr} (z : PrA H p c) (k : TupKeep H H') : PrA H' p c := by
  obtain ⟨q, h1, h2⟩ := z
  exact ⟨q, k _ _ h1, k _ _ h2⟩
theorem pra_of {K : PySem.W.Frag} {H : Hp} {ps : List Addr} {cs : List ((Nat × Nat) × Addr)} (h : Paired (PrA H) ps cs) : Paired (PrT K H) ps (cs.map fun c => (keyC c.1, V.ref c.2)) := by
  induction h with
  | nil => exact .nil
  | cons r _ ih =>
    obtain ⟨q, h1, h2⟩ := r
    exact .cons ⟨q, SqT.of h1, h2⟩ ih
theorem use_sortN {C : Addr} {p h : Nat} {os : List Od} {k : Nat} {o : Od} {d : Addr} {H : Hp} {w : Addr} {cs : List ((Nat × Nat) × Addr)} {K : PySem.W.Frag} {Q : VK} (W : LNets C p h os k o d H w cs) (e : cs.map (·.1) = candsL h o.s)
    (q : ∀ ys r, Paired (StopAt H) ys (candsL h o.s) → H r = none → Q (.ref r) (upd H r (.lst ys))) : rSortKT plD K [.ref w] H Q := by
  refine ⟨w, _, candsL h o.s, StopAt H, rfl, W.tab, fun ks hk => ?_, wr_alike _, wr_sortable _, fun b _ => plD_depth b, fun ys r hys nr => q ys r (by rw [candsL_sort] at hys; exact hys) nr⟩
  have h1 := keys_stops hk
  rw [e] at h1
  exact ⟨h1, stops_dp h1⟩
theorem stops_eqv {H : Hp} : ∀ {vs ws : List V} {l : List (Nat × Nat)}, Paired (StopAt H) vs l → Paired (StopAt H) ws l → Paired (Eqv 1 H) vs ws
  | _, _, _, .nil, .nil => .nil
  | _, _, c :: _, .cons r t, .cons r' t' => .cons (optEqv (o := some c) r r') (stops_eqv t t')
theorem LNets.toM {C : Addr} {p h : Nat} {os : List Od} {k : Nat} {o : Od} {d M : Addr} {H H' : Hp} {w : Addr} {cs : List ((Nat × Nat) × Addr)} (W : LNets C p h os k o d H w cs) (nM : H M = none) (s : Same H H') : LNets C p h os k o M H' w cs :=
  ⟨s _ _ W.tab, fun c hc => by
    obtain ⟨t, F, N, _⟩ := W.nets c hc
    exact ⟨t, F, N.same s, N.new nM⟩⟩
theorem LNets.butM {C : Addr} {p h : Nat} {os : List Od} {k : Nat} {o : Od} {M : Addr} {H H' : Hp} {w : Addr} {cs : List ((Nat × Nat) × Addr)} {ms : List V} (W : LNets C p h os k o M H w cs) (b : But M H H') (hM : H M = some (.lst ms)) : LNets C p h os k o M H' w cs :=
  ⟨b _ _ (ne_of W.tab hM (by intro z; cases z)) W.tab, fun c hc => by
    obtain ⟨t, F, N, n⟩ := W.nets c hc
    exact ⟨t, F, N.but b (fun b' xs e => b _ _ (ne_of e hM (by intro z; cases z)) e) n, n⟩⟩
theorem opt_plain (k : NK) : (optD k).plain = true := by
  cases k <;> simp [optD, plD, PyData.plainAll, PyData.plain]
theorem opts_plain : ∀ l : List NK, PyData.plainAll (l.map optD) = true
  | [] => by simp [PyData.plainAll]
  | k :: l => by simp [PyData.plainAll, opt_plain k, opts_plain l]
theorem opt_depth (k : NK) : (optD k).depth ≤ 60 := by
  cases k <;> simp [optD, plD, PyData.depth, PyData.depthAll]
theorem use_minB {K : PySem.W.Frag} {H : Hp} {M : Addr} {ms : List V} {z : Nat × Nat × Nat} {zs : List (Nat × Nat × Nat)} {Q : VK} {m : Nat × Nat × Nat} (hM : H M = some (.lst ms)) (hms : Paired (BAt H) ms (z :: zs)) (e : minB z zs = m)
    (q : ∀ u, H u = some (.tup [.int m.1, .int m.2.1, .int m.2.2]) → Q (.ref u) H) : rMinD K [.ref M] H Q := by
  subst e
  have dp := bs_dp (K := K) hms
  refine ⟨M, ms, b3D z, zs.map b3D, rfl, SqL.of hM, dp, b3_alike (z :: zs), Nat.le_trans (b3_depth (z :: zs)) (by decide), fun i x hx hd => ?_⟩
  obtain ⟨u, rfl, hu⟩ := bMin hms hx hd
  exact q u hu
/-! ### k16: sets of results, the best letter -/
theorem stops_refs {K : PySem.W.Frag} {H : Hp} : ∀ {vs : List V} {xs : List (Nat × Nat)}, Paired (StopAt H) vs xs → ∃ ks : List (Addr × List Int), vs = ks.map (fun p => V.ref p.1) ∧ ks.map (·.2) = xs.map (fun s => [(s.1 : Int), (s.2 : Int)]) ∧ ∀ p ∈ ks, SqT K H p.1 (p.2.map V.int) ∧ ∃ s ∈ xs, p.2 = [(s.1 : Int), (s.2 : Int)] ∧ StopAt H (.ref p.1) s
  | _, _, .nil => ⟨[], rfl, rfl, fun p hp => by cases hp⟩
  | _, _, .cons (b := s) (l₂ := xs) r t => by
    obtain ⟨ks, e1, e2, e3⟩ := stops_refs (K := K) t
    obtain ⟨u, rfl, hu⟩ := r
    refine ⟨(u, [(s.1 : Int), (s.2 : Int)]) :: ks, by rw [e1]; rfl, by rw [List.map_cons, e2]; rfl, fun p hp => ?_⟩
    rcases List.mem_cons.mp hp with z | z
    · rw [z]
      exact ⟨SqT.of hu, s, List.mem_cons_self, rfl, u, rfl, hu⟩
    · obtain ⟨h1, s', h2, h3⟩ := e3 p z
      exact ⟨h1, s', List.mem_cons_of_mem _ h2, h3⟩
/-- sorted(set(xs)), xs a list of stops -/
theorem use_sset {K : PySem.W.Frag} {P : Program} {w : World} {H : Hp} {l : Addr} {vs : List V} {xs : List (Nat × Nat)} {Q : VK} (hl : H l = some (.lst vs)) (hv : Paired (StopAt H) vs xs) (few : xs.length < 64)
    (q : ∀ a L, H a = none → (∀ p ∈ L, SqT K H p.1 (p.2.map V.int) ∧ ∃ s ∈ xs, p.2 = [(s.1 : Int), (s.2 : Int)] ∧ StopAt H (.ref p.1) s) → (∀ s ∈ xs, [(s.1 : Int), (s.2 : Int)] ∈ L.map (·.2)) → Q (.ref a) (upd H a (SetTO P w a L))) : rSetOfT K P w [.ref l] H Q := by
  obtain ⟨ks, e1, e2, e3⟩ := stops_refs (K := K) hv
  have ekl : ks.length = xs.length := by
    have := congrArg List.length e2
    rwa [List.length_map, List.length_map] at this
  refine ⟨l, ks, rfl, by rw [← e1]; exact SqL.of hl, fun p hp => (e3 p hp).1, by omega, fun a L na h1 h2 => q a L na (fun p hp => e3 p (h1 p hp)) fun s hs => ?_⟩
  have m : [(s.1 : Int), (s.2 : Int)] ∈ ks.map (·.2) := by rw [e2]; exact List.mem_map_of_mem (f := fun s : Nat × Nat => [(s.1 : Int), (s.2 : Int)]) hs
  obtain ⟨p, hp, ep⟩ := List.mem_map.mp m
  rw [← ep]
  exact h2 p hp
theorem back_stops {K : PySem.W.Frag} {H : Hp} {xs : List (Nat × Nat)} : ∀ {L : List (Addr × List Int)}, (∀ p ∈ L, SqT K H p.1 (p.2.map V.int) ∧ ∃ s ∈ xs, p.2 = [(s.1 : Int), (s.2 : Int)] ∧ StopAt H (.ref p.1) s) → ∃ ds : List (Nat × Nat), Paired (StopAt H) (L.map fun q => V.ref q.1) ds ∧ L.map (·.2) = ds.map (fun s => [(s.1 : Int), (s.2 : Int)]) ∧ ∀ s ∈ ds, s ∈ xs
  | [], _ => ⟨[], .nil, rfl, fun s h => by cases h⟩
  | p :: L, h => by
    obtain ⟨ds, h1, h2, h3⟩ := back_stops (L := L) fun p hp => h p (List.mem_cons_of_mem _ hp)
    obtain ⟨_, s, hs, e, st⟩ := h p List.mem_cons_self
    refine ⟨s :: ds, .cons st h1, by rw [List.map_cons, h2, e]; rfl, fun s' hs' => ?_⟩
    rcases List.mem_cons.mp hs' with z | z
    · rw [z]; exact hs
    · exact h3 s' z
theorem use_ssorted {K : PySem.W.Frag} {P : Program} {w : World} {H H' : Hp} {a : Addr} {L : List (Addr × List Int)} {xs : List (Nat × Nat)} {Q : VK} {B : Int} (ha : H' a = some (SetTO P w a L)) (sm : Same H H')
    (h1 : ∀ p ∈ L, SqT K H p.1 (p.2.map V.int) ∧ ∃ s ∈ xs, p.2 = [(s.1 : Int), (s.2 : Int)] ∧ StopAt H (.ref p.1) s) (h2 : ∀ s ∈ xs, [(s.1 : Int), (s.2 : Int)] ∈ L.map (·.2)) (hb : ∀ s ∈ xs, (s.1 : Int) < B ∧ (s.2 : Int) < B)
    (q : ∀ ys ds r, Paired (StopAt H') ys ds → ds.Pairwise (fun a b => ltS a b = true) → (∀ s, s ∈ ds ↔ s ∈ xs) → H' r = none → Q (.ref r) (upd H' r (.lst ys))) : rSortedT K P w [.ref a] H' Q := by
  have h1' : ∀ p ∈ L, SqT K H' p.1 (p.2.map V.int) ∧ ∃ s ∈ xs, p.2 = [(s.1 : Int), (s.2 : Int)] ∧ StopAt H' (.ref p.1) s := fun p hp => by
    obtain ⟨_, s, hs, e, st⟩ := h1 p hp
    have st' := st.keep (tk_of sm)
    refine ⟨?_, s, hs, e, st'⟩
    obtain ⟨u, eu, hu⟩ := st'
    cases eu
    rw [e]
    exact SqT.of hu
  refine ⟨a, L, 2, B, rfl, ha, fun p hp => (h1' p hp).1, by decide, fun p hp => ?_, fun L' r pm nd _ pw nr => ?_⟩
  · obtain ⟨_, s, hs, e, _⟩ := h1' p hp
    have := hb s hs
    rw [e]
    refine ⟨rfl, fun m hm => ?_⟩
    rcases List.mem_cons.mp hm with z | z
    · rw [z]; exact ⟨by omega, this.1⟩
    · rw [List.mem_singleton.mp z]; exact ⟨by omega, this.2⟩
  · obtain ⟨ds, g1, g2, g3⟩ := back_stops (L := L') fun p hp => h1' p (pm.mem_iff.mp hp)
    refine q _ ds r g1 ?_ (fun s => ⟨g3 s, fun hs => ?_⟩) nr
    · have pw2 : (L'.map (·.2)).Pairwise fun x y => TS.code B x ≤ TS.code B y := List.pairwise_map.mpr pw
      rw [g2] at pw2 nd
      rw [List.pairwise_map] at pw2
      have nd2 : ds.Pairwise fun a b => [(a.1 : Int), (a.2 : Int)] ≠ [(b.1 : Int), (b.2 : Int)] := List.pairwise_map.mp nd
      refine List.Pairwise.imp_of_mem (fun {x y} hx hy z => ?_) (pw2.and nd2)
      have bx := hb x (g3 x hx)
      have bY := hb y (g3 y hy)
      have bd : ∀ s : Nat × Nat, ((s.1 : Int) < B ∧ (s.2 : Int) < B) → TS.Bd B [(s.1 : Int), (s.2 : Int)] := fun s hs m hm => by
        rcases List.mem_cons.mp hm with z | z
        · rw [z]; exact ⟨by omega, hs.1⟩
        · rw [List.mem_singleton.mp z]; exact ⟨by omega, hs.2⟩
      have lx := code_lex (bd x bx) (bd y bY) z.1
      have ne : ¬ (x.1 = y.1 ∧ x.2 = y.2) := fun e => z.2 (by rw [e.1, e.2])
      rw [ltS_iff]
      omega
    · have m := h2 s hs
      have m2 : [(s.1 : Int), (s.2 : Int)] ∈ L'.map (·.2) := (pm.map (·.2)).mem_iff.mpr m
      rw [g2] at m2
      obtain ⟨s', hs', e⟩ := List.mem_map.mp m2
      have e1 : (s'.1 : Int) = s.1 ∧ (s'.2 : Int) = s.2 := by
        simp only [List.cons.injEq] at e
        exact ⟨e.1, e.2.1⟩
      have : s' = s := Prod.ext (by omega) (by omega)
      rw [← this]
      exact hs'
/-! the best letter, met one by one -/
structure Bst (l : List (Nat × Nat × Nat)) (z : Nat × Nat × Nat) : Prop where
  mem : z ∈ l
  min : ∀ y ∈ l, z.1 < y.1 ∨ (z.1 = y.1 ∧ (z.2.1 < y.2.1 ∨ (z.2.1 = y.2.1 ∧ z.2.2 ≤ y.2.2)))
def Lat (l : List (Nat × Nat × Nat)) (n : Nat × Nat × Nat) : Prop := ∀ y ∈ l, y.2.1 < n.2.1 ∨ (y.2.1 = n.2.1 ∧ y.2.2 < n.2.2)
theorem Bst.less {l : List (Nat × Nat × Nat)} {z n : Nat × Nat × Nat} (b : Bst l z) (h : n.1 < z.1) : Bst (l ++ [n]) n :=
  ⟨List.mem_append_right _ List.mem_cons_self, fun y hy => by
    rcases List.mem_append.mp hy with q | q
    · have := b.min y q
      omega
    · rw [List.mem_singleton.mp q]
      omega⟩
theorem Bst.more {l : List (Nat × Nat × Nat)} {z n : Nat × Nat × Nat} (b : Bst l z) (a : Lat l n) (h : ¬ n.1 < z.1) : Bst (l ++ [n]) z :=
  ⟨List.mem_append_left _ b.mem, fun y hy => by
    rcases List.mem_append.mp hy with q | q
    · exact b.min y q
    · rw [List.mem_singleton.mp q]
      have := a z b.mem
      omega⟩
theorem Bst.first {n : Nat × Nat × Nat} : Bst [n] n := ⟨List.mem_cons_self, fun y hy => by rw [List.mem_singleton.mp hy]; omega⟩
def BstAt (H : Hp) (v : V) (l : List (Nat × Nat × Nat)) : Prop := (l = [] ∧ v = .non) ∨ ∃ z u q, v = .ref u ∧ H u = some (.tup [.int z.1, .ref q]) ∧ H q = some (.tup [.int z.2.1, .int z.2.2]) ∧ Bst l z
theorem BstAt.keep {H H' : Hp} {v : V} {l : List (Nat × Nat × Nat)} (k : TupKeep H H') (h : BstAt H v l) : BstAt H' v l := by
  rcases h with h | ⟨z, u, q, e, h1, h2, b⟩
  · exact .inl h
  · exact .inr ⟨z, u, q, e, k _ _ h1, k _ _ h2, b⟩
theorem WBest.bst {Z : Wp} {R : List (Nat × Nat)} {f hs dy : Nat} {z : Nat × Nat × Nat} (b : WBest Z R f hs dy) (e : Bst (Z.allB R f Z.h) z) : z = (Z.wst R hs dy, hs, dy) := by
  obtain ⟨a1, a2, a3, a4⟩ := Wp.mem_allB.mp e.mem
  have q := e.min (Z.wst R hs dy, hs, dy) (Wp.mem_allB.mpr ⟨b.hh, b.lo, b.hi, rfl⟩)
  have r := b.best _ _ a1 a2 a3
  rw [← a4] at r
  have q' : z.1 < Z.wst R hs dy ∨ (z.1 = Z.wst R hs dy ∧ (z.2.1 < hs ∨ (z.2.1 = hs ∧ z.2.2 ≤ dy))) := q
  refine Prod.ext ?_ (Prod.ext ?_ ?_)
  · show z.1 = Z.wst R hs dy; omega
  · show z.2.1 = hs; omega
  · show z.2.2 = dy; omega
theorem Wp.lat {Z : Wp} {R : List (Nat × Nat)} {f i j : Nat} : Lat (Z.allB R f i ++ Z.rowB R f i j) (Z.wst R i (f + j), i, f + j) := fun y hy => by
  rcases List.mem_append.mp hy with q | q
  · exact .inl (Wp.mem_allB.mp q).1
  · unfold Wp.rowB at q
    obtain ⟨k, hk, rfl⟩ := List.mem_map.mp q
    have := List.mem_range.mp hk
    exact .inr ⟨rfl, by show f + k < f + j; omega⟩
/-! what the law told nets are -/
theorem LCands.but {p h k : Nat} {os : List Od} {o : Od} {H H' : Hp} {w d : Addr} {cs : List ((Nat × Nat) × Addr)} (W : LCands p h os k o H w cs) (b : But d H H') (n : w ≠ d) (tk : TupKeep H H') : LCands p h os k o H' w cs :=
  ⟨b _ _ n W.tab, fun c hc => (W.parts c hc).keep tk⟩
theorem LCands.dget {p h k : Nat} {os : List Od} {o : Od} {H : Hp} {w : Addr} {cs : List ((Nat × Nat) × Addr)} (W : LCands p h os k o H w cs) {c : Nat × Nat} {v : V} (hc : c ∈ cs.map (·.1)) (hv : StopAt H v c) : ∃ x, DGet H w v (some (.ref x)) ∧ PartsAt H x p h (setO os k o c) := by
  obtain ⟨x, h1, h2⟩ := valC_some hc
  obtain ⟨u, rfl, hu⟩ := hv
  refine ⟨x, ?_, W.parts _ h1⟩
  rw [← h2]
  exact DGet.t W.tab (k := keyC c) hu
theorem use_sortC {p h k : Nat} {os : List Od} {o : Od} {H : Hp} {w : Addr} {cs : List ((Nat × Nat) × Addr)} {R : List (Nat × Nat)} {K : PySem.W.Frag} {Q : VK} (W : LCands p h os k o H w cs) (e : cs.map (·.1) = R) (pw : R.Pairwise fun a b => ltS a b = true)
    (q : ∀ ys r, Paired (StopAt H) ys R → H r = none → Q (.ref r) (upd H r (.lst ys))) : rSortKT plD K [.ref w] H Q := by
  refine ⟨w, _, R, StopAt H, rfl, W.tab, fun ks hk => ?_, wr_alike _, wr_sortable _, fun b _ => plD_depth b, fun ys r hys nr => q ys r (by rw [sort_pw pw] at hys; exact hys) nr⟩
  have h1 := keys_stops hk
  rw [e] at h1
  exact ⟨h1, stops_dp h1⟩
theorem ResOk.of {res : List NK} {ds : List (Nat × Nat)} (h1 : ds.Pairwise fun a b => ltS a b = true) (h2 : ∀ s, s ∈ ds ↔ some s ∈ res) : ResOk ((if none ∈ res then [none] else []) ++ ds.map some) res := ⟨ds, rfl, h1, h2⟩
theorem opts_eqv {H : Hp} : ∀ {vs ws : List V} {l : List NK}, Paired (OptStop H) vs l → Paired (OptStop H) ws l → Paired (Eqv 1 H) vs ws
  | _, _, _, .nil, .nil => .nil
  | _, _, _, .cons r t, .cons r' t' => .cons (optEqv r r') (opts_eqv t t')
theorem tab_ne {H : Hp} {w d : Addr} {kvs : List (List L2.Key × V)} (D : DAt H d) (h : H w = some (.dT kvs)) : w ≠ d := fun z => by
  obtain ⟨_, _, _, _, _, hd⟩ := D
  rw [← z, h] at hd
  cases hd
theorem rem_one {Z : Wp} {R : List (Nat × Nat)} {hs dy : Nat} {r : NK} : Z.rem R [((hs, dy), r)] = R.filter fun c => decide (Z.res hs dy c = r) := by
  unfold Wp.rem Wp.ok
  refine List.filter_congr fun c _ => ?_
  rw [List.all_cons, List.all_nil, Bool.and_true]
theorem hop_days2 {p h : Nat} {os : List Od} {c s : Nat × Nat} (k : NetOk p h os) (e : hop p os c = some s) : s.2 ≤ c.2 + 9 := by
  unfold hop at e
  cases q : idx p os c.1 (c.2 : Int) with
  | none =>
    rw [q] at e
    cases e
  | some j =>
    simp only [q] at e
    have hj := idx_lt q
    rw [List.getElem?_eq_getElem hj] at e
    rw [← Option.some.inj e]
    have := (k.ok _ (List.getElem_mem hj)).e
    show c.2 + _ ≤ c.2 + 9
    omega
theorem stp_days2 {p h : Nat} {os : List Od} {st : Nat × Nat} (k : NetOk p h os) : ∀ (i : Nat) {s : Nat × Nat}, stp p os i st = some s → s.2 ≤ st.2 + 9 * i
  | 0, s, e => by
    cases e
    exact Nat.le_refl _
  | i + 1, s, e => by
    obtain ⟨c, hc, e⟩ := Option.bind_eq_some_iff.mp (show (stp p os i st).bind (hop p os) = some s from e)
    have h1 := stp_days2 k i hc
    have h2 := hop_days2 k e
    omega
theorem dst_days2 {p h : Nat} {os : List Od} {st c : Nat × Nat} (ok : NetOk p h os) (hh : st.1 < h) (e : dst p h os st = some c) : c.2 ≤ st.2 + 2700 := by
  have big : h * p ≤ 300 := Nat.mul_le_mul ok.h10 ok.p30
  unfold dst at e
  rcases folR_cases ok hh with ⟨l, e1, hne, hl, nd⟩ | ⟨m, s, b, t, k, e1, _⟩
  · rw [e1] at e
    have e : l.getLast? = some c := e
    rw [List.getLast?_eq_getElem?, hl] at e
    have hb := places_bound ok.p1 (fun s hs => by
      obtain ⟨j, hj⟩ := List.getElem?_of_mem hs
      exact pst_house ok hh j ((hl j).symm.trans hj)) nd
    have := stp_days2 ok _ e
    omega
  · rw [e1] at e
    cases e
/-! ### k14: what the law holds -/
open LamX (Tabs TabS ExtN) in
section
structure S14 (C O : Addr) (p h : Nat) (os : List Od) (k : Nat) (o : Od) (Z : Wp) (T : List (Addr × Str)) (d pa t s w fl : Addr) (cs : List ((Nat × Nat) × Addr)) (R : List (Nat × Nat)) (A : List Obs) (tv : V) (tr : Nat × Nat) (H : Hp) : Prop where
  D : DAt H d
  pa : H pa = some (.tup [.int p, .int h, .ref t])
  L : LCands p h os k o H w cs
  tv : StopAt H tv tr
  W : WAt O C H s Z R A
  F : ∃ fvs, H fl = some (.lst fvs) ∧ Paired (ObsAt H) fvs A
  T : Tabs T H
section
variable {C O : Addr} {p h : Nat} {os : List Od} {k : Nat} {o : Od} {Z : Wp} {T : List (Addr × Str)} {d pa t s w fl : Addr} {cs : List ((Nat × Nat) × Addr)} {R : List (Nat × Nat)} {A : List Obs} {tv : V} {tr : Nat × Nat} {H H' : Hp}
theorem WAt.extN (W : WAt O C H s Z R A) (e : ExtN H H') : WAt O C H' s Z R A := by
  obtain ⟨S, h, a, b, c⟩ := W
  exact ⟨S, h.extN e, a, b, c⟩
theorem S14.same (S : S14 C O p h os k o Z T d pa t s w fl cs R A tv tr H) (e : Same H H') : S14 C O p h os k o Z T d pa t s w fl cs R A tv tr H' := by
  obtain ⟨fvs, h1, h2⟩ := S.F
  exact ⟨S.D.but e, e _ _ S.pa, S.L.same e, S.tv.keep (tk_of e), S.W.same e, ⟨fvs, e _ _ h1, Paired.mapP h2 fun _ _ z => ObsAt.keep (tk_of e) z⟩, tabs_same S.T e⟩
theorem S14.but (S : S14 C O p h os k o Z T d pa t s w fl cs R A tv tr H) (b : But d H H') (D' : DAt H' d) (n : d ∉ Z.F) : S14 C O p h os k o Z T d pa t s w fl cs R A tv tr H' := by
  obtain ⟨fvs, h1, h2⟩ := S.F
  have tk := b.tk S.D
  have nf : fl ≠ d := dl_ne (R := fun _ => True) S.D h1 (paired_all (fun v a z => by obtain ⟨u, _, e, _⟩ := z; exact ⟨u, e⟩) h2)
  exact ⟨D', tk _ _ S.pa, S.L.but b (tab_ne S.D S.L.tab) tk, S.tv.keep tk, S.W.but b S.D n, ⟨fvs, b _ _ nf h1, Paired.mapP h2 fun _ _ z => ObsAt.keep tk z⟩, tabs_butD S.T b S.D⟩
theorem S14.extN (S : S14 C O p h os k o Z T d pa t s w fl cs R A tv tr H) (e : ExtN H H') (T' : Tabs T H') : S14 C O p h os k o Z T d pa t s w fl cs R A tv tr H' := by
  obtain ⟨fvs, h1, h2⟩ := S.F
  exact ⟨S.D.extN e, ExtN.tk e _ _ S.pa, S.L.extN e, S.tv.keep (ExtN.tk e), S.W.extN e, ⟨fvs, ExtN.lst e h1, Paired.mapP h2 fun _ _ z => ObsAt.keep (ExtN.tk e) z⟩, T'⟩
theorem S14.see (S : S14 C O p h os k o Z T d pa t s w fl cs R A tv tr H) {R' : List (Nat × Nat)} {A' : List Obs} (b : But s H H') (W' : WAt O C H' s Z R' A') : DAt H' d ∧ H' pa = some (.tup [.int p, .int h, .ref t]) ∧ LCands p h os k o H' w cs ∧ StopAt H' tv tr ∧ (∃ fvs, H' fl = some (.lst fvs) ∧ Paired (ObsAt H') fvs A) ∧ Tabs T H' := by
  obtain ⟨fvs, h1, h2⟩ := S.F
  have tk := S.W.tk b
  obtain ⟨dx, a1, a2, a3, a4, hi⟩ := S.W.ins
  refine ⟨?_, tk _ _ S.pa, S.L.but b (ne_of S.L.tab hi (by intro z; cases z)) tk, S.tv.keep tk, ⟨fvs, b _ _ (ne_of h1 hi (by intro z; cases z)) h1, Paired.mapP h2 fun _ _ z => ObsAt.keep tk z⟩, tabs_butI S.T b hi⟩
  obtain ⟨g1, g2, g3, g4, g5, g6⟩ := S.D
  exact ⟨g1, g2, g3, g4, g5, b _ _ (ne_of g6 hi (by intro z; cases z)) g6⟩
theorem use_seeX {D : Addr} {Q : VK} {E : XK} {y : V} {r : NK} {hs dy : Nat} (W : WAt O C H s Z R A) (hy : OptStop H y r) (h1 : hs < Z.h) (h2 : dy ≤ 1000000000000000000) (h3 : ∀ c, r = some c → c.1 < Z.h) (hR : R ≠ []) (h4 : Z.rem R [((hs, dy), r)] = []) (h5 : R.length ≤ 100)
    (q : ∀ H', Same H H' → E (.ref D) none H') : spWSeeX O C D [.ref s, .int hs, .int dy, y] H Q E := by
  obtain ⟨S, W, rfl, rfl, rfl⟩ := W
  exact ⟨s, S, hs, dy, y, r, rfl, W, hy, h1, h2, h3, hR, h4, h5, q⟩
end
theorem Eqv.up : ∀ {n : Nat} {H : Hp} {a b : V}, Eqv n H a b → Eqv (n + 1) H a b
  | 0, _, _, _, h => .inl h
  | n + 1, H, a, b, h => by
    rcases h with h | ⟨p, q, xs, ys, e1, e2, h1, h2, h3, h4⟩ | ⟨p, q, xs, ys, e1, e2, h1, h2, h3, h4⟩
    · exact .inl h
    · exact .inr (.inl ⟨p, q, xs, ys, e1, e2, h1, h2, h3, Paired.mapP h4 fun _ _ z => Eqv.up z⟩)
    · exact .inr (.inr ⟨p, q, xs, ys, e1, e2, h1, h2, h3, Paired.mapP h4 fun _ _ z => Eqv.up z⟩)
theorem obs_eqvs {H : Hp} : ∀ {vs ws : List V} {l : List Obs}, Paired (ObsAt H) vs l → Paired (ObsAt H) ws l → Paired (Eqv 2 H) vs ws
  | _, _, _, .nil, .nil => .nil
  | _, _, _, .cons r t, .cons r' t' => by
    obtain ⟨u, y, e, hu, hy⟩ := r
    obtain ⟨u', y', e', hu', hy'⟩ := r'
    exact .cons (.inr (.inl ⟨u, u', _, _, e, e', hu, hu', by show 3 ≤ 1000; decide, .cons Eqv.int (.cons Eqv.int (.cons (optEqv hy hy') .nil))⟩)) (obs_eqvs t t')
def errD (i : Nat) : PyData := .tuple [.str (eName i), .int 0]
theorem errD_shaped : ∀ i, i < 15 → PySem.SeqAt.shaped (errD i) = true := by decide +kernel
end
/-! ### k15: three watchers of one net; what the law asks of them -/
section
variable {O C s : Addr} {H : Hp} {Z : Wp} {R : List (Nat × Nat)} {A : List Obs} {Q : VK} {E : XK} {DH DD DR D : Addr}
theorem use_seeB {a d : Int} {y : V} (W : WAt O C H s Z R A) (bad : BadLet Z.h H a d y DH DD DR D) (hR : R ≠ []) (h5 : R.length ≤ 100) (q : ∀ H', Same H H' → E (.ref D) none H') : spWSeeB O C DH DD DR [.ref s, .int a, .int d, y] H Q E := by
  obtain ⟨S, W, rfl, rfl, rfl⟩ := W
  exact ⟨s, D, S, a, d, y, rfl, W, bad, hR, h5, q⟩
theorem use_allB {pre : List Obs} {us0 : List V} {ub : Addr} {a d : Int} {y : V} (W : WAt O C H s Z R A) (hu0 : Paired (ObsAt H) us0 pre) (hob : ∀ b ∈ pre, b.1.1 < Z.h ∧ b.1.2 ≤ 1000000000000000000 ∧ ∀ c, b.2 = some c → c.1 < Z.h) (hne : Z.rem R pre ≠ []) (hub : H ub = some (.tup [.int a, .int d, y])) (bad : BadLet Z.h H a d y DH DD DR D) (h5 : R.length ≤ 100) (len : pre.length ≤ 400)
    (q : ∀ H', Same H H' → E (.ref D) none H') : spWAllB O C DH DD DR (.ref s :: (us0 ++ [.ref ub])) H Q E := by
  obtain ⟨S, W, rfl, rfl, rfl⟩ := W
  have hl := hu0.length
  exact ⟨s, D, _, rfl, ⟨S, pre, ub, a, d, y, us0, [], rfl, W, hu0, hob, hne, hub, bad, h5, by rw [List.length_append, List.length_singleton]; omega⟩, q⟩
theorem use_allX {pre : List Obs} {b0 : Obs} {us : List V} (W : WAt O C H s Z R A) (hus : Paired (ObsAt H) us (pre ++ [b0])) (hob : ∀ b ∈ pre ++ [b0], b.1.1 < Z.h ∧ b.1.2 ≤ 1000000000000000000 ∧ ∀ c, b.2 = some c → c.1 < Z.h) (hne : Z.rem R pre ≠ []) (hno : Z.rem R (pre ++ [b0]) = []) (h5 : R.length ≤ 100) (len : us.length ≤ 500)
    (q : ∀ H', Same H H' → E (.ref D) none H') : spWAllX O C D (.ref s :: us) H Q E := by
  obtain ⟨S, W, rfl, rfl, rfl⟩ := W
  exact ⟨s, S, pre, b0, [], us, rfl, W, hus, hob, hne, hno, h5, len, q⟩
theorem WAt.look (W : WAt O C H s Z R A) (m : Str) (n1 : ¬ m = "net") (n2 : ¬ m = "ways") (n3 : ¬ m = "remaining") (n4 : ¬ m = "accepted") : ∃ dx fs, H s = some (.ins O dx fs) ∧ fs.lookup m = none := by
  obtain ⟨dx, a, b, c, d, h⟩ := W.ins
  exact ⟨dx, _, h, wf_no n1 n2 n3 n4⟩
end
open LamX (Tabs TabS ExtN) in
structure S15 (C O : Addr) (Z : Wp) (T : List (Addr × Str)) (d pa t x s1 s2 s3 fl : Addr) (obs : List Obs) (R1 : List (Nat × Nat)) (A1 : List Obs) (R2 : List (Nat × Nat)) (A2 : List Obs) (R3 : List (Nat × Nat)) (A3 : List Obs) (H : Hp) : Prop where
  D : DAt H d
  pa : H pa = some (.tup [.int Z.p, .int Z.h, .ref t])
  hO : OrdsTup H t Z.os
  N : NetAt C H x Z.p Z.h Z.os t Z.F
  W1 : WAt O C H s1 Z R1 A1
  W2 : WAt O C H s2 Z R2 A2
  W3 : WAt O C H s3 Z R3 A3
  F : ∃ fvs, H fl = some (.lst fvs) ∧ Paired (ObsAt H) fvs obs
  T : Tabs T H
section
open LamX (Tabs TabS ExtN)
variable {C O : Addr} {Z : Wp} {T : List (Addr × Str)} {d pa t x s1 s2 s3 fl : Addr} {obs : List Obs} {R1 : List (Nat × Nat)} {A1 : List Obs} {R2 : List (Nat × Nat)} {A2 : List Obs} {R3 : List (Nat × Nat)} {A3 : List Obs} {H H' : Hp}
theorem S15.same (S : S15 C O Z T d pa t x s1 s2 s3 fl obs R1 A1 R2 A2 R3 A3 H) (e : Same H H') : S15 C O Z T d pa t x s1 s2 s3 fl obs R1 A1 R2 A2 R3 A3 H' := by
  obtain ⟨fvs, h1, h2⟩ := S.F
  exact ⟨S.D.but e, e _ _ S.pa, S.hO.keep (tk_of e), S.N.same e, S.W1.same e, S.W2.same e, S.W3.same e, ⟨fvs, e _ _ h1, Paired.mapP h2 fun _ _ z => ObsAt.keep (tk_of e) z⟩, tabs_same S.T e⟩
theorem S15.extN (S : S15 C O Z T d pa t x s1 s2 s3 fl obs R1 A1 R2 A2 R3 A3 H) (e : ExtN H H') (T' : Tabs T H') : S15 C O Z T d pa t x s1 s2 s3 fl obs R1 A1 R2 A2 R3 A3 H' := by
  obtain ⟨fvs, h1, h2⟩ := S.F
  exact ⟨S.D.extN e, ExtN.tk e _ _ S.pa, S.hO.keep (ExtN.tk e), S.N.extN e, S.W1.extN e, S.W2.extN e, S.W3.extN e, ⟨fvs, ExtN.lst e h1, Paired.mapP h2 fun _ _ z => ObsAt.keep (ExtN.tk e) z⟩, T'⟩
theorem S15.but (S : S15 C O Z T d pa t x s1 s2 s3 fl obs R1 A1 R2 A2 R3 A3 H) (b : But d H H') (D' : DAt H' d) (n : d ∉ Z.F) : S15 C O Z T d pa t x s1 s2 s3 fl obs R1 A1 R2 A2 R3 A3 H' := by
  obtain ⟨fvs, h1, h2⟩ := S.F
  have tk := b.tk S.D
  have nf : fl ≠ d := dl_ne (R := fun _ => True) S.D h1 (paired_all (fun v a z => by obtain ⟨u, _, e, _⟩ := z; exact ⟨u, e⟩) h2)
  exact ⟨D', tk _ _ S.pa, S.hO.keep tk, S.N.but b tk n, S.W1.but b S.D n, S.W2.but b S.D n, S.W3.but b S.D n, ⟨fvs, b _ _ nf h1, Paired.mapP h2 fun _ _ z => ObsAt.keep tk z⟩, tabs_butD S.T b S.D⟩
theorem S15.base (S : S15 C O Z T d pa t x s1 s2 s3 fl obs R1 A1 R2 A2 R3 A3 H) {s : Addr} {R : List (Nat × Nat)} {A : List Obs} (W : WAt O C H s Z R A) (b : But s H H') : DAt H' d ∧ H' pa = some (.tup [.int Z.p, .int Z.h, .ref t]) ∧ OrdsTup H' t Z.os ∧ NetAt C H' x Z.p Z.h Z.os t Z.F ∧ (∃ fvs, H' fl = some (.lst fvs) ∧ Paired (ObsAt H') fvs obs) ∧ Tabs T H' := by
  obtain ⟨fvs, h1, h2⟩ := S.F
  have tk := W.tk b
  obtain ⟨dx, a1, a2, a3, a4, hi⟩ := W.ins
  refine ⟨?_, tk _ _ S.pa, S.hO.keep tk, S.N.wat b W, ⟨fvs, b _ _ (W.ne h1) h1, Paired.mapP h2 fun _ _ z => ObsAt.keep tk z⟩, tabs_butI S.T b hi⟩
  obtain ⟨g1, g2, g3, g4, g5, g6⟩ := S.D
  exact ⟨g1, g2, g3, g4, g5, b _ _ (ne_of g6 hi (by intro z; cases z)) g6⟩
theorem S15.see1 (S : S15 C O Z T d pa t x s1 s2 s3 fl obs R1 A1 R2 A2 R3 A3 H) {R : List (Nat × Nat)} {A : List Obs} (b : But s1 H H') (W : WAt O C H' s1 Z R A) (n2 : s2 ≠ s1) (n3 : s3 ≠ s1) : S15 C O Z T d pa t x s1 s2 s3 fl obs R A R2 A2 R3 A3 H' := by
  obtain ⟨a1, a2, a3, a4, a5, a6⟩ := S.base S.W1 b
  exact ⟨a1, a2, a3, a4, W, S.W2.other b n2 S.W1, S.W3.other b n3 S.W1, a5, a6⟩
theorem S15.see2 (S : S15 C O Z T d pa t x s1 s2 s3 fl obs R1 A1 R2 A2 R3 A3 H) {R : List (Nat × Nat)} {A : List Obs} (b : But s2 H H') (W : WAt O C H' s2 Z R A) (n1 : s1 ≠ s2) (n3 : s3 ≠ s2) : S15 C O Z T d pa t x s1 s2 s3 fl obs R1 A1 R A R3 A3 H' := by
  obtain ⟨a1, a2, a3, a4, a5, a6⟩ := S.base S.W2 b
  exact ⟨a1, a2, a3, a4, S.W1.other b n1 S.W2, W, S.W3.other b n3 S.W2, a5, a6⟩
theorem S15.see3 (S : S15 C O Z T d pa t x s1 s2 s3 fl obs R1 A1 R2 A2 R3 A3 H) {R : List (Nat × Nat)} {A : List Obs} (b : But s3 H H') (W : WAt O C H' s3 Z R A) (n1 : s1 ≠ s3) (n2 : s2 ≠ s3) : S15 C O Z T d pa t x s1 s2 s3 fl obs R1 A1 R2 A2 R A H' := by
  obtain ⟨a1, a2, a3, a4, a5, a6⟩ := S.base S.W3 b
  exact ⟨a1, a2, a3, a4, S.W1.other b n1 S.W3, S.W2.other b n2 S.W3, W, a5, a6⟩
/-- a list of numbers changes that isn't the law's w -/
theorem S15.ints {l : Addr} {q : List Nat} (S : S15 C O Z T d pa t x s1 s2 s3 fl obs R1 A1 R2 A2 R3 A3 H) (b : But l H H') (hl : H l = some (.lst (nints q))) (nd : d ≠ l) (nF : l ∉ Z.F) (ho : obs ≠ []) (r1 : R1 ≠ []) (a1 : A1 ≠ []) (r2 : R2 ≠ []) (a2 : A2 ≠ []) (r3 : R3 ≠ []) (a3 : A3 ≠ []) : S15 C O Z T d pa t x s1 s2 s3 fl obs R1 A1 R2 A2 R3 A3 H' := by
  obtain ⟨fvs, h1, h2⟩ := S.F
  have tk : TupKeep H H' := fun c xs z => b c _ (ne_of z hl (by intro y; cases y)) z
  have m : fvs ≠ [] := fun z => by
    rw [z] at h2
    cases h2
    exact ho rfl
  have nf : fl ≠ l := ints_ne hl h1 m (paired_all (fun v a z => by obtain ⟨u, _, e, _⟩ := z; exact ⟨u, e⟩) h2)
  refine ⟨?_, tk _ _ S.pa, S.hO.keep tk, S.N.but b tk nF, S.W1.ints b hl nF r1 a1, S.W2.ints b hl nF r2 a2, S.W3.ints b hl nF r3 a3, ⟨fvs, b _ _ nf h1, Paired.mapP h2 fun _ _ z => ObsAt.keep tk z⟩, tabs_butL S.T b hl⟩
  obtain ⟨g1, g2, g3, g4, g5, g6⟩ := S.D
  exact ⟨g1, g2, g3, g4, g5, b _ _ nd g6⟩
end
/-- what a watcher says of itself -/
def StA (H : Hp) (u : Addr) (R : List (Nat × Nat)) (A : List Obs) : Prop := ∃ c g cv gv, H u = some (.lst [.ref c, .ref g]) ∧ H c = some (.lst cv) ∧ H g = some (.lst gv) ∧ Paired (StopAt H) cv R ∧ Paired (ObsAt H) gv A
theorem StA.keep {H H' : Hp} {u : Addr} {R : List (Nat × Nat)} {A : List Obs} (s : StA H u R A) (k : TupKeep H H') (l : ∀ a xs, H a = some (.lst xs) → H' a = some (.lst xs)) : StA H' u R A := by
  obtain ⟨c, g, cv, gv, h1, h2, h3, h4, h5⟩ := s
  exact ⟨c, g, cv, gv, l _ _ h1, l _ _ h2, l _ _ h3, Paired.mapP h4 fun _ _ z => z.keep k, Paired.mapP h5 fun _ _ z => ObsAt.keep k z⟩
theorem StA.same {H H' : Hp} {u : Addr} {R : List (Nat × Nat)} {A : List Obs} (s : StA H u R A) (e : Same H H') : StA H' u R A := s.keep (tk_of e) fun a xs z => e _ _ z
theorem StA.but {d : Addr} {H H' : Hp} {u : Addr} {R : List (Nat × Nat)} {A : List Obs} (s : StA H u R A) (b : But d H H') (D : DAt H d) : StA H' u R A := by
  obtain ⟨c, g, cv, gv, h1, h2, h3, h4, h5⟩ := s
  have k := b.tk D
  have n1 : u ≠ d := dl_ne (R := fun _ => True) D h1 (fun v hv => by
    rcases List.mem_cons.mp hv with rfl | hv
    · exact ⟨_, rfl⟩
    · exact ⟨_, List.mem_singleton.mp hv⟩)
  have n2 : c ≠ d := dl_ne (R := fun _ => True) D h2 (paired_all (fun v a z => by obtain ⟨u, e, _⟩ := z; exact ⟨u, e⟩) h4)
  have n3 : g ≠ d := dl_ne (R := fun _ => True) D h3 (paired_all (fun v a z => by obtain ⟨u, _, e, _⟩ := z; exact ⟨u, e⟩) h5)
  exact ⟨c, g, cv, gv, b _ _ n1 h1, b _ _ n2 h2, b _ _ n3 h3, Paired.mapP h4 fun _ _ z => z.keep k, Paired.mapP h5 fun _ _ z => ObsAt.keep k z⟩
theorem StA.extN {H H' : Hp} {u : Addr} {R : List (Nat × Nat)} {A : List Obs} (s : StA H u R A) (e : LamX.ExtN H H') : StA H' u R A := s.keep (ExtN.tk e) fun a xs z => ExtN.lst e z
theorem OddAt.extN {h : Nat} {H H' : Hp} {v : V} (o : OddAt h H v) (e : LamX.ExtN H H') : OddAt h H' v := o.keep (ExtN.tk e) fun a xs _ z => ExtN.lst e z
theorem sta_eqv {H : Hp} {u u' : Addr} {R : List (Nat × Nat)} {A : List Obs} (s : StA H u R A) (s' : StA H u' R A) (hR : R.length ≤ 1000) (hA : A.length ≤ 1000) : Eqv 4 H (.ref u) (.ref u') := by
  obtain ⟨c, g, cv, gv, h1, h2, h3, h4, h5⟩ := s
  obtain ⟨c', g', cv', gv', h1', h2', h3', h4', h5'⟩ := s'
  have e1 := stops_eqv h4 h4'
  have e2 := obs_eqvs h5 h5'
  have l1 := h4.length
  have l2 := h5.length
  exact .inr (.inr ⟨u, u', _, _, rfl, rfl, h1, h1', by show 2 ≤ 1000; decide, .cons (.inr (.inr ⟨c, c', _, _, rfl, rfl, h2, h2', by omega, Paired.mapP e1 fun _ _ z => Eqv.up z⟩)) (.cons (.inr (.inr ⟨g, g', _, _, rfl, rfl, h3, h3', by omega, e2⟩)) .nil)⟩)
theorem Wp.rem_far {Z : Wp} {R : List (Nat × Nat)} {pre : List Obs} {hs dy n : Nat} (ok : ∀ c ∈ R, NetOk Z.p Z.h (setO Z.os Z.k Z.o c)) (hh : hs < Z.h) (hn : 2700 < n) : Z.rem R (pre ++ [((hs, dy), some (hs, dy + n))]) = [] := by
  unfold Wp.rem
  rw [List.filter_eq_nil_iff]
  intro c hc z
  rw [List.all_append, List.all_cons, List.all_nil, Bool.and_true, Bool.and_eq_true] at z
  have e : Z.res hs dy c = some (hs, dy + n) := of_decide_eq_true z.2
  have := dst_days2 (ok c hc) (st := (hs, dy)) hh e
  have h2 : dy + n ≤ dy + 2700 := this
  omega
theorem paired4 {α β : Type} {F : α → β → Prop} {a b c d : α} {a' b' c' d' : β} (h : Paired F [a, b, c, d] [a', b', c', d']) : F a a' ∧ F b b' ∧ F c c' ∧ F d d' := by
  cases h with
  | cons q0 r => cases r with
    | cons q1 r => cases r with
      | cons q2 r => cases r with
        | cons q3 r => exact ⟨q0, q1, q2, q3⟩
/-- .. while a list L of such grows -/
def StL (L : Addr) (H : Hp) (u : Addr) (R : List (Nat × Nat)) (A : List Obs) : Prop := u ≠ L ∧ ∃ c g cv gv, c ≠ L ∧ g ≠ L ∧ H u = some (.lst [.ref c, .ref g]) ∧ H c = some (.lst cv) ∧ H g = some (.lst gv) ∧ Paired (StopAt H) cv R ∧ Paired (ObsAt H) gv A
theorem StL.sta {L : Addr} {H : Hp} {u : Addr} {R : List (Nat × Nat)} {A : List Obs} (s : StL L H u R A) : StA H u R A := by
  obtain ⟨_, c, g, cv, gv, _, _, h⟩ := s
  exact ⟨c, g, cv, gv, h⟩
theorem StL.same {L : Addr} {H H' : Hp} {u : Addr} {R : List (Nat × Nat)} {A : List Obs} (s : StL L H u R A) (e : Same H H') : StL L H' u R A := by
  obtain ⟨n, c, g, cv, gv, n1, n2, h1, h2, h3, h4, h5⟩ := s
  exact ⟨n, c, g, cv, gv, n1, n2, e _ _ h1, e _ _ h2, e _ _ h3, Paired.mapP h4 fun _ _ z => z.keep (tk_of e), Paired.mapP h5 fun _ _ z => ObsAt.keep (tk_of e) z⟩
theorem StL.updL {L : Addr} {H : Hp} {u : Addr} {R : List (Nat × Nat)} {A : List Obs} {xs ys : List V} (s : StL L H u R A) (hL : H L = some (.lst xs)) : StL L (L2.upd H L (.lst ys)) u R A := by
  obtain ⟨n, c, g, cv, gv, n1, n2, h1, h2, h3, h4, h5⟩ := s
  have k : TupKeep H (L2.upd H L (.lst ys)) := TupKeep.lst hL
  exact ⟨n, c, g, cv, gv, n1, n2, (upd_ne n).trans h1, (upd_ne n1).trans h2, (upd_ne n2).trans h3, Paired.mapP h4 fun _ _ z => z.keep k, Paired.mapP h5 fun _ _ z => ObsAt.keep k z⟩
abbrev s_law : Stmt := top 58
abbrev N_law : List Str := ["_law_script", "_law_d", "_law_index_here", "_law_nets", "_law_truth", "_law_k", "_law_other", "_law_third", "_law_counts", "_law_found", "_law_states", "_law_result_here", "_law_calls", "_law_day", "_law_far", "_law_house", "_law_letters", "_law_net_here", "_law_odd", "_law_parts", "_law_watcher", "_law_wrong", "_law_letter", "_law_one"]
abbrev P_law : List Str := ["_law_script"]
theorem sc_law : FnScope N_law P_law (defScope s_law) := ⟨rfl, rfl, rfl, by decide +kernel, rfl, by decide +kernel, by decide +kernel⟩
section
open LamX (Tabs TabB)
theorem dvBind0 {params : Arguments} {body : Expr} {scope : Scope} (h : ∀ (q : Str) (cl : List (Str × Addr)) (doc pm cv ctv : Value), bindArgs (PySem.W.kdv_fn "<lambda>" q params (.expr body) scope cl .none doc pm cv ctv) ⟨[], []⟩ = pure []) : DvBind false params body scope := fun q cl dV doc pm cv ctv s e => by
  rw [if_neg Bool.false_ne_true] at e
  subst e
  exact ⟨[], .of_eq (h q cl doc pm cv ctv), fun y hy => by cases hy⟩
theorem dvBind1 {params : Arguments} {body : Expr} {scope : Scope} (h : ∀ (q : Str) (cl : List (Str × Addr)) (u : Addr) (doc pm cv ctv : Value), ∃ (kk : Option (Array Value) → Sem (List (Str × Value))) (x : Str), bindArgs (PySem.W.kdv_fn "<lambda>" q params (.expr body) scope cl (.ref u) doc pm cv ctv) ⟨[], []⟩ = seqItems? (.ref u) >>= kk ∧ (∀ tk, kk (some #[.int 0 tk]) = pure [(x, .int 0 tk)]) ∧ scope.names.lookup x = some .local) : DvBind true params body scope := fun q cl dV doc pm cv ctv s e => by
  rw [if_pos rfl] at e
  obtain ⟨u, o, tk, n, rfl, e1, e2⟩ := e
  obtain ⟨kk, x, h1, h2, h3⟩ := h q cl u doc pm cv ctv
  exact ⟨_, BindsTo.of_defaults rfl e1 e2 h1 (h2 tk), fun y hy => by rw [List.mem_singleton.mp hy]; exact h3⟩
variable {P : Program} {w : World} {K : PySem.W.Frag} {mg : Str → Option Value} {base : Heap}
set_option maxHeartbeats 0 in
theorem ok_law {f C O fX fI fA fS pC fC pH fH fAr cL Pt CP : Addr} {cE : Nat → Addr} {fd fdX fdI fdS fdC fdH fdAr : FuncData} (F : FunC K "law" "law" s_law f fd cL) (TBl : TabB base mg cL Pt) (B : Blt mg) (zs : mg "sorted" = none) (TN : NetT K C) (T : WatT K O)
    (FX : Fun K "_law_error_of" "_law_error_of" s_l_error_of fX fdX) (gX : mg "_law_error_of" = some (.ref fX)) (kX : PySem.W.keepIn K (.ref fX) = true) (bX : Binds K fdX P_l_error_of []) (ME : ErrM mg CP cE) (e15 : ∀ j, j = 0 ∨ j = 1 ∨ j = 2 ∨ j = 7 ∨ j = 8 → Err15 K CP cE (cE j) j)
    (gAr : mg "_law_all_raise" = some (.ref fAr)) (kAr : PySem.W.keepIn K (.ref fAr) = true) (bAr : Binds K fdAr P_l_all_raise []) (GAr : FnOk P w K mg base CX0 10 fAr fdAr P_l_all_raise (spAllR P w K mg base cE 7 7))
    (DR : Df P w K mg base "_law_random" 2 P_l_random (spRandom K)) (DB : Df P w K mg base "_law_below" 2 P_l_below spBelow) (DM : Df P w K mg base "_law_small" 4 P_l_small spSmall) (DN : Df P w K mg base "_law_net" 7 P_l_net (spNet C))
    (DC : Df P w K mg base "_law_candidates" 1 P_l_candidates spLCands) (DRe : Df P w K mg base "_law_result" 4 P_l_result spResult) (DE : ∀ n, Df P w K mg base "_law_equal" (n + 2) P_l_equal (spEqual n))
    (gO : mg "Watcher" = some (.ref O)) (MW : Mk K O fI) (GI : FnOk P w K mg base CX0 8 fI fdI P_Watcher_init (spWInit O C)) (GIX : FnOk P w K mg base (L2.CX P w) 5 fI fdI P_Watcher_init (spWInitX K O C (cE 2))) (bI : Binds K fdI P_Watcher_init [])
    (mA : Meth K O "see_all" fA) (GA : FnR P w K mg base CX0 5 fA (spWAll O C)) (GAB : FnR P w K mg base (L2.CX P w) 5 fA (spWAllB O C (cE 1) (cE 0) (cE 7))) (GAX : FnR P w K mg base (L2.CX P w) 5 fA (spWAllX O C (cE 8)))
    (mS : Meth K O "see" fS) (GS : FnOk P w K mg base CX0 6 fS fdS P_Watcher_see (spWSee O C)) (GSB : FnOk P w K mg base (L2.CX P w) 6 fS fdS P_Watcher_see (spWSeeB O C (cE 1) (cE 0) (cE 7))) (bS : Binds K fdS P_Watcher_see [])
    (qC : PropOf K O "candidates" pC fC) (GC : FnOk P w K mg base CX0 1 fC fdC P_Watcher_candidates (spWCands O C)) (bC : Binds K fdC P_Watcher_candidates []) (qH : PropOf K O "history" pH fH) (GH : FnOk P w K mg base CX0 1 fH fdH P_Watcher_history (spWHist O C)) (bH : Binds K fdH P_Watcher_history []) : FnOk P w K mg base CX0 11 f fd P_law (spLawT K Pt) := by
  obtain ⟨f1, d1, g1, k1, b1, G1⟩ := DR
  obtain ⟨f2, d2, g2, k2, b2, G2⟩ := DB
  obtain ⟨f3, d3, g3, k3, b3, G3⟩ := DM
  obtain ⟨f4, d4, g4, k4, b4, G4⟩ := DN
  obtain ⟨f8, d8, g8, k8, b8, G8⟩ := DC
  obtain ⟨f9, d9, g9, k9, b9, G9⟩ := DRe
  obtain ⟨f10, d10, g10, k10, b10, G10⟩ := DE 5
  obtain ⟨ocX, odX, kVX, docX, pmX, anX, cdvX, ctX, oslX, rfl, lkX, hcX⟩ := FX.ex
  refine F.ok sc_law (fun vs H Q E h => ?_) (fun A outer s H vs Q E hr h => ?_)
  · obtain ⟨a, ns, rfl, _⟩ := h
    rfl
  · obtain ⟨a, ns, rfl, hS, hlen, hPt, qz⟩ := h
    have hr1 : Room 1 _ := hr.mono (by decide)
    have hr2 : Room 2 _ := hr.mono (by decide)
    have hr4 : Room 4 _ := hr.mono (by decide)
    have hr5 : Room 5 _ := hr.mono (by decide)
    have hr6 : Room 6 _ := hr.mono (by decide)
    have hr7 : Room 7 _ := hr.mono (by decide)
    have hr9 : Room 9 _ := hr.mono (by decide)
    have hr8 : Room 8 _ := hr.mono (by decide)
    have hu : (A.deeper (PyProof.Rows.envOfC "law" (defScope s_law) s.heap.objs.size f (.ref cL))).units + 64 < cLine := hr.units
    have hu1 : (A.deeper (PyProof.Rows.envOfC "law" (defScope s_law) s.heap.objs.size f (.ref cL))).units + 1 < cLine := hu_of hr
    have hu65 : (A.deeper (PyProof.Rows.envOfC "law" (defScope s_law) s.heap.objs.size f (.ref cL))).units + 65 < cLine := by
      have := hr.un
      omega
    refine ⟨_, (pss_cons (ps_set (i := 1) sc_law.nd rfl (.inl rfl) (pe_call G1 hr2 (by rfl) g1 k1 b1 .nil pass0 (pa_cons (pv 0) (pa_cons pe_int pa_nil))))
      (pss_cons (ps_set (i := 19) sc_law.nd rfl (.inr rfl) (pe_call G3 hr4 (by rfl) g3 k3 b3 .nil pass0 (pa_cons (pv 1) pa_nil)))
      (pss_cons (ps_set (i := 2) sc_law.nd rfl (.inl rfl) (pe_call G2 hr2 (by rfl) g2 k2 b2 .nil pass0 (pa_cons (pv 1) (pa_cons (pe_callB call_len_seq (by rfl) B.len PySem.boot_len (pa_cons (pe_ix ix_tup (pv 19) pe_int (fun _ _ => rfl)) pa_nil)) pa_nil))))
      (pss_cons (ps_asg (pe_tup (pa_cons (pe_call G8 hr1 (by rfl) g8 k8 b8 .nil pass0 (pa_cons (pv 19) (pa_cons (pv 2) pa_nil))) (pa_cons (pe_call G4 hr7 (by rfl) g4 k4 b4 .nil pass0 (pa_cons (pv 19) pa_nil)) pa_nil))) (pg_tup (by rfl) (pgs_cons (pg_name (i := 3) sc_law.nd rfl (.inl rfl)) (pgs_cons (pg_name (i := 17) sc_law.nd rfl (.inr rfl)) pgs_nil))))
      (pss_cons (ps_set (i := 4) sc_law.nd rfl (.inl rfl) (pe_ix ix_list (pe_callB (cr_sortedKT plD rfl hu65) (by rfl) zs PyProof.Rows.boot_sorted (pa_cons (pv 3) pa_nil)) (pe_call G2 hr2 (by rfl) g2 k2 b2 .nil pass0 (pa_cons (pv 1) (pa_cons (pe_callB call_len_dT (by rfl) B.len PySem.boot_len (pa_cons (pv 3) pa_nil)) pa_nil))) (fun _ _ => rfl)))
      (pss_cons (ps_set (i := 16) sc_law.nd rfl (.inr rfl) (pe_lst pa_nil))
      (C8.pss_cut (ps_for PassesOwn.never rfl (pi_range1 rfl B.range (pa_cons pe_int pa_nil)) (pg_name (i := 5) sc_law.nd rfl (.inl rfl)) (pss_cons (ps_asg (pe_tup (pa_cons (pe_call G2 hr2 (by rfl) g2 k2 b2 .nil pass0 (pa_cons (pv 1) (pa_cons (pe_ix ix_tup (pv 19) pe_int (fun _ _ => rfl)) pa_nil))) (pa_cons (pe_call G2 hr2 (by rfl) g2 k2 b2 .nil pass0 (pa_cons (pv 1) (pa_cons pe_int pa_nil))) pa_nil))) (pg_tup (by rfl) (pgs_cons (pg_name (i := 15) sc_law.nd rfl (.inr rfl)) (pgs_cons (pg_name (i := 13) sc_law.nd rfl (.inr rfl)) pgs_nil))))
      (pss_one (ps_expr (pe_bm PySem.F.plainAttrs_list PySem.F.slot_list_append PySem.F.type_list_append mt_append (pv 16) (pa_cons (pe_tup (pa_cons (pv 15) (pa_cons (pv 13) (pa_cons (pe_call G9 hr4 (by rfl) g9 k9 b9 .nil pass0 (pa_cons (pe_dget hu1 (pv 3) (pv 4) (fun _ _ => rfl)) (pa_cons (pv 15) (pa_cons (pv 13) pa_nil)))) pa_nil)))) pa_nil))))))
      (pss_cons (ps_asg (pe_tup (pa_cons (pe_make MW GI hr9 (by rfl) gO bI .nil pass0 (pa_cons (pv 17) (pa_cons (pv 2) pa_nil))) (pa_cons (pe_make MW GI hr9 (by rfl) gO bI .nil pass0 (pa_cons (pv 17) (pa_cons (pv 2) pa_nil))) (pa_cons (pe_make MW GI hr9 (by rfl) gO bI .nil pass0 (pa_cons (pv 17) (pa_cons (pv 2) pa_nil))) pa_nil)))) (pg_tup (by rfl) (pgs_cons (pg_name (i := 20) sc_law.nd rfl (.inr rfl)) (pgs_cons (pg_name (i := 6) sc_law.nd rfl (.inl rfl)) (pgs_cons (pg_name (i := 7) sc_law.nd rfl (.inl rfl)) pgs_nil)))))
      (pss_cons (ps_setLc (i := 8) (own := [("_law_letter", 22)]) (g := gName 22) (tt := tYes) (te := tMeth O "see" (spWSee O C) [] E0 (tVar 20) (tCons (tOp (rIxT K) (tVar 22) (tC (.int 0))) (tCons (tOp (rIxT K) (tVar 22) (tC (.int 1))) (tCons (tOp (rIxT K) (tVar 22) (tC (.int 2))) tNil)))) (by rfl) sc_law.nd rfl rfl (sw_true rfl rfl rfl (by decide +kernel))
        (pi_list (pe_slice sl_list (pv 16) po_none (po_some pe_int))) (blkOk_by (N := N_law) (sc := defScope s_law) (by decide +kernel)) (fun _ _ _ _ _ => (pg_name (i := 22) sc_law.nd rfl (.inl rfl))) (fun _ _ _ _ _ => pts_nil) (fun _ _ _ _ _ => (pe_meth (pv 20) T.cl mS GS hr6 bS .nil pass0 (pa_cons (pe_ix ix_tup (pv 22) pe_int (fun _ _ => rfl)) (pa_cons (pe_ix ix_tup (pv 22) pe_int (fun _ _ => rfl)) (pa_cons (pe_ix ix_tup (pv 22) pe_int (fun _ _ => rfl)) pa_nil))))))
      (pss_cons (ps_set (i := 9) sc_law.nd rfl (.inl rfl) (pe_lst (pa_cons (pe_methR (pv 6) T.cl mA GA hr5 pass0 (pa_cons (pe_ix ix_list (pv 16) pe_int (fun _ _ => rfl)) pa_nil)) (pa_cons (pe_methR0 (pv 6) T.cl mA GA hr5 pass0) (pa_cons (pe_methR (pv 6) T.cl mA GA hr5 pass0 (pa_cons (pe_ix ix_list (pv 16) pe_int (fun _ _ => rfl)) (pa_cons (pe_ix ix_list (pv 16) pe_int (fun _ _ => rfl)) pa_nil))) pa_nil)))))
      (pss_cons (ps_expr (pe_bm PySem.F.plainAttrs_list PySem.F.slot_list_append PySem.F.type_list_append mt_append (pv 9) (pa_cons (pe_methR (pv 7) T.cl mA GA hr5 pass0 (pa_cons (pe_ix ix_list (pv 16) pe_int (fun _ _ => rfl)) (pa_cons (pe_ix ix_list (pv 16) pe_int (fun _ _ => rfl)) (pa_cons (pe_ix ix_list (pv 16) pe_int (fun _ _ => rfl)) pa_nil)))) pa_nil)))
      (pss_cons (ps_if (pt_not (pt_val (pe_call G10 hr7 (by rfl) g10 k10 b10 .nil pass0 (pa_cons (pv 9) (pa_cons (pe_lst (pa_cons (pe_ix ix_list (pv 8) pe_int (fun _ _ => rfl)) (pa_cons (pe_ix ix_list (pv 8) pe_int (fun _ _ => rfl)) (pa_cons (pe_ix ix_list (pv 8) pe_int (fun _ _ => rfl)) (pa_cons (pe_ix ix_list (pv 8) pe_int (fun _ _ => rfl)) pa_nil))))) pa_nil))))) (pss_one (ps_ret pe_bl)) pss_nil)
      (pss_cons (ps_setLc (i := 10) (own := [("_law_one", 23)]) (g := gName 23) (tt := tYes) (te := tLst (tCons (tProp O (spWCands O C) [] E0 (tVar 23)) (tCons (tProp O (spWHist O C) [] E0 (tVar 23)) tNil))) (by rfl) sc_law.nd rfl rfl (sw_true rfl rfl rfl (by decide +kernel))
        (pi_list (pe_lst (pa_cons (pv 20) (pa_cons (pv 6) (pa_cons (pv 7) pa_nil))))) (blkOk_by (N := N_law) (sc := defScope s_law) (by decide +kernel)) (fun _ _ _ _ _ => (pg_name (i := 23) sc_law.nd rfl (.inl rfl))) (fun _ _ _ _ _ => pts_nil) (fun _ _ _ _ _ => (pe_lst (pa_cons (pe_prop (pv 23) T.cl qC GC hr2 bC .nil pass0 rfl) (pa_cons (pe_prop (pv 23) T.cl qH GH hr2 bH .nil pass0 rfl) pa_nil)))))
      (pss_cons (ps_if (PW.pt (pw_or (pt_not (pt_val (pe_call G10 hr7 (by rfl) g10 k10 b10 .nil pass0 (pa_cons (pv 10) (pa_cons (pe_lst (pa_cons (pe_ix ix_list (pv 10) pe_int (fun _ _ => rfl)) (pa_cons (pe_ix ix_list (pv 10) pe_int (fun _ _ => rfl)) (pa_cons (pe_ix ix_list (pv 10) pe_int (fun _ _ => rfl)) pa_nil)))) pa_nil))))) (pw_or1 (pt_cmpR (op_neD hu) (pe_ix ix_list (pe_ix ix_list (pv 10) pe_int (fun _ _ => rfl)) pe_int (fun _ _ => rfl)) (pe_slice sl_list (pv 16) po_none (po_some pe_int)) (nomark _))))) (pss_one (ps_ret pe_bl)) pss_nil)
      (pss_cons (ps_asg (pe_ix ix_list (pv 16) pe_int (fun _ _ => rfl)) (pg_tup (by rfl) (pgs_cons (pg_name (i := 15) sc_law.nd rfl (.inr rfl)) (pgs_cons (pg_name (i := 13) sc_law.nd rfl (.inr rfl)) (pgs_cons (pg_name (i := 11) sc_law.nd rfl (.inl rfl)) pgs_nil)))))
      (C8.pss_cut (ps_set (i := 18) sc_law.nd rfl (.inr rfl) (pe_ix ix_list (pe_lst (pa_cons pe_int (pa_cons (pe_tup (pa_cons pe_int pa_nil)) (pa_cons (pe_tup (pa_cons (pe_ix ix_tup (pv 19) pe_int (fun _ _ => rfl)) (pa_cons pe_int pa_nil))) (pa_cons (pe_tup (pa_cons pe_int (pa_cons pe_non pa_nil))) (pa_cons (pe_tup (pa_cons pe_int (pa_cons pe_bl pa_nil))) (pa_cons (pe_tup (pa_cons pe_non (pa_cons pe_int pa_nil))) (pa_cons (pe_lst (pa_cons pe_int (pa_cons pe_int pa_nil))) (pa_cons pe_str pa_nil))))))))) (pe_call G2 hr2 (by rfl) g2 k2 b2 .nil pass0 (pa_cons (pv 1) (pa_cons pe_int pa_nil))) (fun _ _ => rfl)))
      (pss_cons (ps_set (i := 12) sc_law.nd rfl (.inl rfl) (pe_lst (pa_cons (pe_lamV0 (T := [(Pt, _)]) (k := 6) (t := (fun E => tMeth O "see" (spWSeeB O C (cE 1) (cE 0) (cE 7)) [] E (tVar 20) (tCons (tVar 15) (tCons (tVar 13) (tCons (tVar 18) tNil))))) TBl rfl List.mem_cons_self (fun p hp _ => by rw [List.mem_singleton.mp hp]) (lamSc_by (by show lamScB N_law (defScope s_law) _ = true; decide +kernel)) rfl (dvBind0 fun _ _ _ _ _ _ => rfl)
        (fun A outer s H E f c' hr' => pe_meth (E := E) (pv 20) T.cl mS GSB hr' bS .nil (passes_call (takes_of rfl rfl rfl rfl) fun _ _ _ _ z => z) (pa_cons (pv 15) (pa_cons (pv 13) (pa_cons (pv 18) pa_nil))))) (pa_cons (pe_lamV1 (T := [(Pt, _)]) (k := 6) (t := (fun E => tMethR O "see_all" (spWAllB O C (cE 1) (cE 0) (cE 7)) E (tVar 20) (tCons (tOp (rIxL K) (tVar 16) (tC (.int 3))) (tCons (tTup (tCons (tVar 15) (tCons (tVar 13) (tCons (tVar 18) tNil)))) tNil)))) TBl rfl List.mem_cons_self (fun p hp _ => by rw [List.mem_singleton.mp hp]) (lamSc_by (by show lamScB N_law (defScope s_law) _ = true; decide +kernel)) rfl rfl pe_int (dvBind1 fun _ _ _ _ _ _ _ => ⟨_, "_law_a", rfl, fun _ => rfl, rfl⟩)
        (fun A outer s H E f c' hr' => pe_methR (E := E) (pv 20) T.cl mA GAB (hr'.mono (by decide)) (passes_call (takes_of rfl rfl rfl rfl) fun _ _ _ _ z => z) (pa_cons (pe_ix ix_list (pv 16) pe_int (fun _ _ => rfl)) (pa_cons (pe_tup (pa_cons (pv 15) (pa_cons (pv 13) (pa_cons (pv 18) pa_nil)))) pa_nil)))) pa_nil))))
      (pss_cons (ps_if (pt_not (pt_val (pe_callV GAr hr (by rfl) gAr kAr bAr (fun _ => rfl) (pa_cons (pv 12) (pa_cons (pe_tup (pa_cons pe_str (pa_cons pe_int pa_nil))) pa_nil))))) (pss_one (ps_ret pe_bl)) pss_nil)
      (pss_cons (ps_if (pt_cmpR (op_neD hu) (LamX.pe_lamcall (T := [(Pt, _)]) (TT := TTerr K CP cE) (k := 6) (Ng := N_l_error_of) (t := (fun E => tMethR O "see_all" (spWAllB O C (cE 1) (cE 0) (cE 7)) E (tVar 20) (tCons (tOp (rIxL K) (tVar 16) (tC (.int 3))) (tCons (tTup (tCons (tOp (rIxT K) (tVar 19) (tC (.int 1))) (tCons (tVar 13) (tCons (tVar 18) tNil)))) tNil)))) (by rfl) gX kX lkX hcX bX sc_l_error_of rfl (.inl rfl) (err_gives ME B hr8) TBl rfl List.mem_cons_self (fun p hp _ => by rw [List.mem_singleton.mp hp]) hr8 (LamX.lamS_by (by show LamX.lamSB (defScope s_law) _ = true; decide +kernel)) rfl (fun _ _ _ _ _ => rfl)
        (fun A outer s H E f c' hr' => pe_methR (E := E) (pv 20) T.cl mA GAB (hr'.mono (by decide)) (passes_call (takes_of rfl rfl rfl rfl) fun _ _ _ _ z => z) (pa_cons (pe_ix ix_list (pv 16) pe_int (fun _ _ => rfl)) (pa_cons (pe_tup (pa_cons (pe_ix ix_tup (pv 19) pe_int (fun _ _ => rfl)) (pa_cons (pv 13) (pa_cons (pv 18) pa_nil)))) pa_nil)))) (pe_tup (pa_cons pe_str (pa_cons pe_int pa_nil))) (nomark _)) (pss_one (ps_ret pe_bl)) pss_nil)
      (pss_cons (ps_if (pt_cmpR (op_neD hu) (LamX.pe_lamcall (T := [(Pt, _)]) (TT := TTerr K CP cE) (k := 6) (Ng := N_l_error_of) (t := (fun E => tMethR O "see_all" (spWAllB O C (cE 1) (cE 0) (cE 7)) E (tVar 20) (tCons (tOp (rIxL K) (tVar 16) (tC (.int 3))) (tCons (tTup (tCons (tVar 15) (tCons (tOp (rI0 fun i j => .int (i - j)) (tC (.int 0)) (tC (.int 1))) (tCons (tVar 18) tNil)))) tNil)))) (by rfl) gX kX lkX hcX bX sc_l_error_of rfl (.inl rfl) (err_gives ME B hr8) TBl rfl List.mem_cons_self (fun p hp _ => by rw [List.mem_singleton.mp hp]) hr8 (LamX.lamS_by (by show LamX.lamSB (defScope s_law) _ = true; decide +kernel)) rfl (fun _ _ _ _ _ => rfl)
        (fun A outer s H E f c' hr' => pe_methR (E := E) (pv 20) T.cl mA GAB (hr'.mono (by decide)) (passes_call (takes_of rfl rfl rfl rfl) fun _ _ _ _ z => z) (pa_cons (pe_ix ix_list (pv 16) pe_int (fun _ _ => rfl)) (pa_cons (pe_tup (pa_cons (pv 15) (pa_cons (pe_op op_sub pe_int pe_int) (pa_cons (pv 18) pa_nil)))) pa_nil)))) (pe_tup (pa_cons pe_str (pa_cons pe_int pa_nil))) (nomark _)) (pss_one (ps_ret pe_bl)) pss_nil)
      (pss_cons (ps_set (i := 14) sc_law.nd rfl (.inr rfl) (pe_tup (pa_cons (pv 15) (pa_cons (pv 13) (pa_cons (pe_tup (pa_cons (pv 15) (pa_cons (pe_op op_add (pv 13) (pe_op op_pow pe_int pe_int)) pa_nil))) pa_nil)))))
      (pss_cons (ps_if (pt_cmpR (op_neD hu) (LamX.pe_lamcall (T := [(Pt, _)]) (TT := TTerr K CP cE) (k := 6) (Ng := N_l_error_of) (t := (fun E => tMethR O "see_all" (spWAllX O C (cE 8)) E (tVar 20) (tCons (tOp (rIxL K) (tVar 16) (tC (.int 3))) (tCons (tVar 14) tNil)))) (by rfl) gX kX lkX hcX bX sc_l_error_of rfl (.inl rfl) (err_gives ME B hr8) TBl rfl List.mem_cons_self (fun p hp _ => by rw [List.mem_singleton.mp hp]) hr8 (LamX.lamS_by (by show LamX.lamSB (defScope s_law) _ = true; decide +kernel)) rfl (fun _ _ _ _ _ => rfl)
        (fun A outer s H E f c' hr' => pe_methR (E := E) (pv 20) T.cl mA GAX (hr'.mono (by decide)) (passes_call (takes_of rfl rfl rfl rfl) fun _ _ _ _ z => z) (pa_cons (pe_ix ix_list (pv 16) pe_int (fun _ _ => rfl)) (pa_cons (pv 14) pa_nil)))) (pe_tup (pa_cons pe_str (pa_cons pe_int pa_nil))) (nomark _)) (pss_one (ps_ret pe_bl)) pss_nil)
      (pss_cons (ps_if (pt_not (pt_val (pe_call G10 hr7 (by rfl) g10 k10 b10 .nil pass0 (pa_cons (pe_lst (pa_cons (pe_prop (pv 20) T.cl qC GC hr2 bC .nil pass0 rfl) (pa_cons (pe_prop (pv 20) T.cl qH GH hr2 bH .nil pass0 rfl) pa_nil))) (pa_cons (pe_ix ix_list (pv 10) pe_int (fun _ _ => rfl)) pa_nil))))) (pss_one (ps_ret pe_bl)) pss_nil)
      (C8.pss_cut (ps_set (i := 21) sc_law.nd rfl (.inr rfl) (pe_ix ix_list (pe_lst (pa_cons (pe_op op_sub pe_int pe_int) (pa_cons (pe_callB call_len_seq (by rfl) B.len PySem.boot_len (pa_cons (pe_ix ix_tup (pv 19) pe_int (fun _ _ => rfl)) pa_nil)) (pa_cons pe_non (pa_cons pe_bl (pa_cons pe_str pa_nil)))))) (pe_call G2 hr2 (by rfl) g2 k2 b2 .nil pass0 (pa_cons (pv 1) (pa_cons pe_int pa_nil))) (fun _ _ => rfl)))
      (pss_one (ps_ret (pe_cmpR (op_eqD hu) (LamX.pe_lamcall (T := [(Pt, _)]) (TT := TTerr K CP cE) (k := 6) (Ng := N_l_error_of) (t := (fun E => tMake O (spWInitX K O C (cE 2)) [] E (tCons (tVar 17) (tCons (tVar 21) tNil)))) (by rfl) gX kX lkX hcX bX sc_l_error_of rfl (.inl rfl) (err_gives ME B hr8) TBl rfl List.mem_cons_self (fun p hp _ => by rw [List.mem_singleton.mp hp]) hr8 (LamX.lamS_by (by show LamX.lamSB (defScope s_law) _ = true; decide +kernel)) rfl (fun _ _ _ _ _ => rfl)
        (fun A outer s H E f c' hr' => pe_make (E := E) MW GIX hr' (by rfl) gO bI .nil (passes_call (takes_of rfl rfl rfl rfl) fun _ _ _ _ z => z) (pa_cons (pv 17) (pa_cons (pv 21) pa_nil)))) (pe_tup (pa_cons pe_str (pa_cons pe_int pa_nil))) (nomark _)))))))))))))))))))))))))))), ?_⟩
    refine ⟨_, rfl, a, ns, 15, rfl, hS, hlen, by decide, fun H1 d s1 nd D1 => ?_⟩
    let qL : Str := (PyProof.Rows.envOfC "law" (defScope s_law) 0 0 .none).qual ++ "<lambda>"
    have T1 : Tabs [(Pt, qL)] H1 := fun p hp => by
      rw [List.mem_singleton.mp hp]
      exact LamX.TabS.nil (s1 _ _ hPt)
    refine ⟨_, rfl, d, rfl, D1, fun H2 pa p h os ok sm b2 D2 npa PA => ?_⟩
    have T2 := tabs_butD T1 b2 D1
    obtain ⟨t, hpa, hO⟩ := id PA
    obtain ⟨sm1, sm2, sm3, sm4, sm5⟩ := sm
    obtain ⟨ts, ht, hP⟩ := id hO
    have tl := hP.length
    refine ⟨_, rfl, _, rfl, pa, _, 2, _, rfl, rfl, SqT.of hpa, atI_nat (j := 2) rfl, t, ts, rfl, .inr (SqT.of ht), d, ts.length, rfl, D2, by omega, by omega, fun H3 k hk b3 D3 => ?_⟩
    have k3 := b3.tk D2
    have T3 := tabs_butD T2 b3 D2
    have PA3 := PA.keep k3
    have hk' : k < os.length := by omega
    have ho := List.getElem?_eq_getElem hk'
    generalize os[k] = o at ho
    obtain ⟨hpa3, hO3⟩ : H3 pa = some (.tup [.int p, .int h, .ref t]) ∧ OrdsTup H3 t os := ⟨k3 _ _ hpa, hO.keep k3⟩
    refine ⟨_, rfl, _, rfl, pa, p, h, k, os, o, rfl, PA3, ok, ho, fun H4 w0 cs0 s4 nw0 C4 ec => ?_⟩
    refine ⟨_, rfl, pa, t, p, h, os, rfl, s4 _ _ hpa3, hO3.keep (tk_of s4), ok, fun H5 x F s5 nF N5 => ?_⟩
    have s45 := s4.trans s5
    have D5 := D3.but s45
    have dF : d ∉ F := fun hm => by
      obtain ⟨o, ho⟩ := (D3.but s4).som
      exact ne_of_none ho (nF d hm) rfl
    have T5 := tabs_same T3 s45
    have hpa5 := s45 _ _ hpa3
    have hO5 := hO3.keep (tk_of s45)
    have C5 := C4.same s5
    refine ⟨(by show 2 ≤ sizeLine; decide), fun u nu => ?_⟩
    have su := same_upd (o := HO.tup [.ref w0, .ref x]) nu
    refine ⟨u, _, rfl, SqT.of upd_same, rfl, _, _, rfl, _, _, rfl, rfl, ?_⟩
    have N6 := N5.same su
    have D6 := D5.but su
    have T6 := tabs_same T5 su
    have hpa6 := su _ _ hpa5
    have hO6 := hO5.keep (tk_of su)
    have C6 := C5.same su
    generalize upd H5 u (.tup [.ref w0, .ref x]) = H6 at N6 D6 T6 hpa6 hO6 C6
    clear su nu C5 hO5 hpa5 T5 D5 s45 N5 nF s5 C4 nw0 s4 hO3 hpa3 PA3 T3 k3 D3 b3 ht hP hO hpa PA T2 D2 b2 npa T1 D1 s1 nd
    generalize hZ : (⟨p, h, os, k, o, F⟩ : Wp) = Z
    have Zp : Z.p = p := by rw [← hZ]
    have Zh : Z.h = h := by rw [← hZ]
    have ZF : Z.F = F := by rw [← hZ]
    have Zos : Z.os = os := by rw [← hZ]
    have Zr : ∀ hs dy c, Z.res hs dy c = dst p h (setO os k o c) (hs, dy) := fun hs dy c => by rw [← hZ]; rfl
    have h10 := ok.h10
    have R0l : (candsL h o.s).length ≤ 90 := Nat.le_trans candsL_len (by omega)
    have hin := truth_in ok ho
    have R0p := List.length_pos_iff.mpr (List.ne_nil_of_mem hin)
    have R0w := candsL_pw (s := o.s) h
    generalize hR0 : candsL h o.s = R0 at ec R0l hin R0p R0w
    have okR : ∀ c ∈ R0, NetOk p h (setO os k o c) := fun c hc => cand_ok ok ho (by rw [hR0]; exact hc)
    have cl : cs0.length = R0.length := by rw [← ec, List.length_map]
    -- the truth
    refine ⟨_, rfl, ?_⟩
    refine nil_of ?_
    refine use_sortC C6 ec R0w fun ys L nys nL => ?_
    have sL := same_upd (o := HO.lst ys) nL
    have C7 := C6.same sL
    have D7 := D6.but sL
    have T7 := tabs_same T6 sL
    have N7 := N6.same sL
    have hpa7 := sL _ _ hpa6
    have hO7 := hO6.keep (tk_of sL)
    have nys7 := StopsAt.keep (tk_of sL) nys
    have hL7 : (upd H6 L (.lst ys)) L = some (.lst ys) := upd_same
    generalize upd H6 L (.lst ys) = H7 at C7 D7 T7 N7 hpa7 hO7 nys7 hL7
    clear sL nL nys C6 D6 T6 N6 hpa6 hO6
    refine ⟨_, rfl, _, rfl, w0, _, rfl, C7.tab, d, (cs0.map fun c => (keyC c.1, V.ref c.2)).length, rfl, D7, by rw [List.length_map]; omega, by rw [List.length_map]; omega, fun H8 ti hti b8 D8 => ?_⟩
    rw [List.length_map, cl] at hti
    have k8 := b8.tk D7
    have Ld : L ≠ d := dl_ne (R := fun _ => True) D7 hL7 (paired_all (fun v a z => by obtain ⟨u, e, _⟩ := z; exact ⟨u, e⟩) nys7)
    have hL8 := b8 _ _ Ld hL7
    have nys8 := StopsAt.keep k8 nys7
    obtain ⟨tv, htv, htr⟩ := Paired.get? (i := ti) nys8 (List.getElem?_eq_getElem hti)
    have trm : R0[ti] ∈ R0 := List.getElem_mem hti
    generalize R0[ti] = tr at htr trm
    have C8 := C7.but b8 (tab_ne D7 C7.tab) k8
    have T8 := tabs_butD T7 b8 D7
    have N8 := N7.but b8 k8 dF
    have hpa8 := k8 _ _ hpa7
    have hO8 := hO7.keep k8
    refine ⟨L, ys, (ti : Int), tv, rfl, rfl, SqL.of hL8, atI_nat htv, ?_⟩
    clear C7 T7 N7 hpa7 hO7 nys7 hL7 b8 D7 hL8 nys8 htv Ld k8
    -- the letters
    refine ⟨by decide, fun FL nFL => ?_⟩
    have sF := same_upd (o := HO.lst []) nFL
    have hFL := (upd_same : (upd H8 FL (.lst [])) FL = _)
    have FLF := N8.new nFL
    have nFd : FL ≠ d := (ne_of_none D8.som.choose_spec nFL).symm
    have C9 := C8.same sF
    have T9 := tabs_same T8 sF
    have N9 := N8.same sF
    have hpa9 := sF _ _ hpa8
    have hO9 := hO8.keep (tk_of sF)
    have D9 := D8.but sF
    have htr9 := htr.keep (tk_of sF)
    generalize upd H8 FL (.lst []) = H9 at hFL C9 T9 N9 hpa9 hO9 D9 htr9
    clear sF nFL C8 T8 N8 hpa8 hO8 D8 htr
    refine ⟨fun σ' H' => ∃ (y5 y13 y15 : Option V) (us : List V) (fs : List Obs), σ' = [some (.ref a), some (.ref d), some (.int k), some (.ref w0), some tv, y5, none, none, none, none, none, none, none, y13, none, y15, some (.ref FL), some (.ref x), none, some (.ref pa), none, none, none, none] ∧ (DAt H' d ∧ NetAt C H' x p h os t F ∧ H' pa = some (.tup [.int p, .int h, .ref t]) ∧ OrdsTup H' t os ∧ Tabs [(Pt, qL)] H' ∧ H' FL = some (.lst us) ∧ Paired (ObsAt H') us fs) ∧ fs.length = 4 ∧ ∀ b ∈ fs, b.1.1 < h ∧ b.1.2 ≤ 20 ∧ b.2 = dst p h (setO os k o tr) b.1, ?_, ?_⟩
    · refine ⟨4, rfl, by decide, by decide, ?_⟩
      refine for_range (lo := 0) (n := (4 : Int).toNat) (fun i σ' H' => ∃ (y5 y13 y15 : Option V) (us : List V) (fs : List Obs), σ' = [some (.ref a), some (.ref d), some (.int k), some (.ref w0), some tv, y5, none, none, none, none, none, none, none, y13, none, y15, some (.ref FL), some (.ref x), none, some (.ref pa), none, none, none, none] ∧ (DAt H' d ∧ NetAt C H' x p h os t F ∧ H' pa = some (.tup [.int p, .int h, .ref t]) ∧ OrdsTup H' t os ∧ Tabs [(Pt, qL)] H' ∧ H' FL = some (.lst us) ∧ Paired (ObsAt H') us fs) ∧ (LCands p h os k o H' w0 cs0 ∧ StopAt H' tv tr) ∧ fs.length = i ∧ ∀ b ∈ fs, b.1.1 < h ∧ b.1.2 ≤ 20 ∧ b.2 = dst p h (setO os k o tr) b.1)
        ⟨_, _, _, [], [], rfl, ⟨D9, N9, hpa9, hO9, T9, hFL, .nil⟩, ⟨C9, htr9⟩, rfl, fun b hb => by cases hb⟩ ?_ ?_
      · rintro i σ HA hi ⟨y5, y13, y15, us, fs, rfl, ⟨DA, NA, hpaA, hOA, TA, hFLA, husA⟩, ⟨CA, htrA⟩, hfl, htrue⟩
        have hi4 : i < 4 := hi
        refine ⟨_, rfl, _, rfl, pa, _, 1, _, rfl, rfl, SqT.of hpaA, atI_nat (j := 1) rfl, d, h, rfl, DA, by omega, by omega, fun HB hs hhs bB DB => ?_⟩
        refine ⟨_, rfl, d, 20, rfl, DB, by decide, by decide, fun HC dy hdy bC DC => ⟨(by show 2 ≤ sizeLine; decide), fun u nu => ?_⟩⟩
        have bAC := bB.trans bC
        have kAC := bAC.tk DA
        have NC := NA.but bAC kAC dF
        have CC := CA.but bAC (tab_ne DA CA.tab) kAC
        have TC := tabs_butD TA bAC DA
        have hFLC := bAC _ _ nFd hFLA
        have husC := Paired.mapP husA fun _ _ z => ObsAt.keep kAC z
        have htrC := htrA.keep kAC
        have hpaC := kAC _ _ hpaA
        have hOC := hOA.keep kAC
        have su := same_upd (o := HO.tup [.int (hs : Nat), .int (dy : Nat)]) nu
        refine ⟨u, _, rfl, SqT.of upd_same, rfl, _, _, rfl, _, _, rfl, rfl, ?_⟩
        have ND := NC.same su
        have CD := CC.same su
        have TD := tabs_same TC su
        have hFLD := su _ _ hFLC
        have husD := Paired.mapP husC fun _ _ z => ObsAt.keep (tk_of su) z
        have htrD := htrC.keep (tk_of su)
        have hpaD := su _ _ hpaC
        have hOD := hOC.keep (tk_of su)
        have DD := DC.but su
        generalize upd HC u (.tup [.int (hs : Nat), .int (dy : Nat)]) = HD at ND CD TD hFLD husD htrD hpaD hOD DD
        clear su nu NC CC TC hFLC husC htrC hpaC hOC DC bC DB bB bAC kAC DA NA hpaA hOA TA hFLA husA CA htrA
        obtain ⟨x1, hg, P1⟩ := CD.dget (by rw [ec]; exact trm) htrD
        refine ⟨_, rfl, .inl ⟨rfl, _, SqL.of hFLD⟩, _, rfl, _, rfl, _, rfl, _, rfl, w0, _, rfl, hg, _, rfl, _, rfl, x1, p, h, hs, dy, setO os k o tr, rfl, P1, okR tr trm, hhs, fun HE y sE hy => ?_⟩
        have hy : OptStop HE y (dst p h (setO os k o tr) (hs, dy)) := hy
        refine ⟨(by show 3 ≤ sizeLine; decide), fun u nu => ?_⟩
        have su := same_upd (o := HO.tup [.int (hs : Nat), .int (dy : Nat), y]) nu
        have sDF := sE.trans su
        have hFLF := sDF _ _ hFLD
        have nuF : u ≠ FL := (ne_of_none (sE _ _ hFLD) nu).symm
        have bU : But FL (upd HE u (HO.tup [.int (hs : Nat), .int (dy : Nat), y])) _ := .upd (o := HO.lst (us ++ [.ref u]))
        have kL : TupKeep (upd HE u (HO.tup [.int (hs : Nat), .int (dy : Nat), y])) _ := TupKeep.lst (o := HO.lst (us ++ [.ref u])) hFLF
        have k10 : TupKeep HD _ := (tk_of sDF).trans kL
        have CF := CD.same sDF
        refine ⟨FL, us, _, rfl, rfl, hFLF, by rw [husD.length, hfl]; exact small1000 (by omega), _, _, _, us ++ [.ref u], fs ++ [((hs, dy), dst p h (setO os k o tr) (hs, dy))], rfl, ⟨?_, (ND.same sDF).but bU kL FLF, k10 _ _ hpaD, hOD.keep k10, tabs_butL (tabs_same TD sDF) bU hFLF, upd_same, Paired.snoc (Paired.mapP husD fun _ _ z => z.keep k10) ⟨u, y, rfl, (upd_ne nuF).trans upd_same, OptStop.keep ((tk_of su).trans kL) hy⟩⟩, ⟨CF.but bU (ne_of CF.tab hFLF (by intro z; cases z)) kL, htrD.keep k10⟩, by rw [List.length_append, hfl]; rfl, fun b hb => ?_⟩
        · obtain ⟨r1, r2, r3, r4, r5, r6⟩ := DD.but sDF
          exact ⟨r1, r2, r3, r4, r5, (upd_ne nFd.symm).trans r6⟩
        · rcases List.mem_append.mp hb with z | z
          · exact htrue b z
          · rw [List.mem_singleton.mp z]
            exact ⟨hhs, by show dy ≤ 20; omega, rfl⟩
      · rintro σ HA ⟨y5, y13, y15, us, fs, rfl, J, _, hfl, htrue⟩
        exact ⟨_, _, _, us, fs, rfl, J, hfl, htrue⟩
    clear D9 N9 hpa9 hO9 T9 hFL C9 htr9
    rintro σ H1 ⟨y5, y13, y15, us, fs, rfl, ⟨D1, N1, hpa1, hO1, T1, hFL1, hus1⟩, hfl, htrue⟩
    obtain ⟨b0, b1, b2, b3, rfl⟩ := len4 hfl
    obtain ⟨v0, v1, v2, v3, rfl⟩ := len4 (hus1.length.trans hfl)
    clear hfl
    have p1 := ok.p1
    -- the watchers
    refine ⟨_, rfl, _, rfl, fun s1 dx1 ns1 nd1 nds1 => ?_⟩
    have e0 : Same H1 (upd (upd H1 dx1 (.own s1)) s1 (.ins O dx1 [])) := same_updN (same_upd nd1) ns1
    refine ⟨s1, dx1, x, t, p, h, k, os, F, o, H1, rfl, N1, ok, ho, e0, ns1, upd_same, fun H2 w1 cs1 r1 a1 e1 nr1 na1 V1 => ⟨rfl, ?_⟩⟩
    refine ⟨_, rfl, _, rfl, fun s2 dx2 ns2 nd2 nds2 => ?_⟩
    have e0 : Same H2 (upd (upd H2 dx2 (.own s2)) s2 (.ins O dx2 [])) := same_updN (same_upd nd2) ns2
    refine ⟨s2, dx2, x, t, p, h, k, os, F, o, H2, rfl, N1.same e1, ok, ho, e0, ns2, upd_same, fun H3 w2 cs2 r2 a2 e2 nr2 na2 V2 => ⟨rfl, ?_⟩⟩
    refine ⟨_, rfl, _, rfl, fun s3 dx3 ns3 nd3 nds3 => ?_⟩
    have e0 : Same H3 (upd (upd H3 dx3 (.own s3)) s3 (.ins O dx3 [])) := same_updN (same_upd nd3) ns3
    refine ⟨s3, dx3, x, t, p, h, k, os, F, o, H3, rfl, N1.same (e1.trans e2), ok, ho, e0, ns3, upd_same, fun H4 w3 cs3 r3 a3 e3 nr3 na3 V3 => ⟨rfl, ?_⟩⟩
    have U1 : WAt O C H2 s1 Z R0 [] := ⟨_, V1, hZ, hR0, rfl⟩
    have U2 : WAt O C H3 s2 Z R0 [] := ⟨_, V2, hZ, hR0, rfl⟩
    have U3 : WAt O C H4 s3 Z R0 [] := ⟨_, V3, hZ, hR0, rfl⟩
    have n21 : s2 ≠ s1 := by
      obtain ⟨_, _, _, _, _, hi⟩ := U1.ins
      exact (ne_of_none hi ns2).symm
    have n31 : s3 ≠ s1 := by
      obtain ⟨_, _, _, _, _, hi⟩ := U1.ins
      exact (ne_of_none (e2 _ _ hi) ns3).symm
    have n32 : s3 ≠ s2 := by
      obtain ⟨_, _, _, _, _, hi⟩ := U2.ins
      exact (ne_of_none hi ns3).symm
    refine ⟨(by show 3 ≤ sizeLine; decide), fun u nu => ?_⟩
    have su := same_upd (o := HO.tup [.ref s1, .ref s2, .ref s3]) nu
    refine ⟨u, _, rfl, SqT.of upd_same, rfl, _, _, rfl, _, _, rfl, _, _, rfl, rfl, ?_⟩
    have e14 := e1.trans (e2.trans (e3.trans su))
    have S5 : S15 C O Z [(Pt, qL)] d pa t x s1 s2 s3 FL [b0, b1, b2, b3] R0 [] R0 [] R0 [] (upd H4 u (.tup [.ref s1, .ref s2, .ref s3])) := by
      have Nn := N1.same e14
      rw [← Zp, ← Zh, ← Zos, ← ZF] at Nn
      have pn := e14 _ _ hpa1
      rw [← Zp, ← Zh] at pn
      have on := hO1.keep (tk_of e14)
      rw [← Zos] at on
      exact ⟨D1.but e14, pn, on, Nn, U1.same (e2.trans (e3.trans su)), U2.same (e3.trans su), U3.same su, ⟨_, e14 _ _ hFL1, Paired.mapP hus1 fun _ _ z => ObsAt.keep (tk_of e14) z⟩, tabs_same T1 e14⟩
    have hFL5 := e14 _ _ hFL1
    have hus5 := Paired.mapP hus1 fun _ _ z => ObsAt.keep (tk_of e14) z
    generalize upd H4 u (.tup [.ref s1, .ref s2, .ref s3]) = H5 at S5 hFL5 hus5
    clear e14 su nu e0 U1 U2 U3 V1 V2 V3 e1 e2 e3 nr1 nr2 nr3 na1 na2 na3 ns1 ns2 ns3 nd1 nd2 nd3 nds1 nds2 nds3 D1 N1 hpa1 hO1 T1 hFL1 hus1
    have hval : ∀ b ∈ [b0, b1, b2, b3], b.1.1 < Z.h ∧ b.1.2 ≤ 1000000000000000000 ∧ ∀ c, b.2 = some c → c.1 < Z.h := fun b hb => by
      have hm := htrue b hb
      rw [Zh]
      exact ⟨hm.1, by omega, fun c hc => dst_house (okR tr trm) hm.1 (hm.2.2.symm.trans hc)⟩
    have hT : ∀ fs' : List Obs, (∀ b ∈ fs', b ∈ [b0, b1, b2, b3]) → Z.rem R0 fs' ≠ [] := fun fs' h' => List.ne_nil_of_mem (a := tr) (List.mem_filter.mpr ⟨trm, by
      rw [List.all_eq_true]
      intro b hb
      refine decide_eq_true ?_
      rw [Zr]
      exact (htrue b (h' b hb)).2.2.symm⟩)
    have m0 : b0 ∈ [b0, b1, b2, b3] := by simp
    have m1 : b1 ∈ [b0, b1, b2, b3] := by simp
    have m2 : b2 ∈ [b0, b1, b2, b3] := by simp
    have m3 : b3 ∈ [b0, b1, b2, b3] := by simp
    -- what the first is told
    refine ⟨_, rfl, 3, rfl, FL, _, rfl, SqL.of hFL5, fun sl nsl => ?_⟩
    rw [show cutV [v0, v1, v2, v3] none (some 3) = [v0, v1, v2] from cut_to (n := 3)]
    have ss := same_upd (o := HO.lst [v0, v1, v2]) nsl
    have hsl : (upd H5 sl (.lst [v0, v1, v2])) sl = some (.lst [v0, v1, v2]) := upd_same
    have S6 := S5.same ss
    have hFL6 := ss _ _ hFL5
    have hus6 := Paired.mapP hus5 fun _ _ z => ObsAt.keep (tk_of ss) z
    refine ⟨sl, rfl, ⟨_, SqL.of upd_same⟩, fun L2 nL2 => ?_⟩
    have nL2 : (upd H5 sl (.lst [v0, v1, v2])) L2 = none := nL2
    generalize upd H5 sl (.lst [v0, v1, v2]) = H6 at hsl S6 hFL6 hus6 nL2 ⊢
    clear S5 hFL5 hus5 ss nsl
    have L2F : L2 ∉ Z.F := S6.N.new nL2
    have slw : sl ≠ s1 := S6.W1.ne hsl
    have L2w : L2 ≠ s1 := by
      obtain ⟨_, _, _, _, _, hi⟩ := S6.W1.ins
      exact (ne_of_none hi nL2).symm
    have hus3 : Paired (ObsAt H6) [v0, v1, v2] [b0, b1, b2] := by
      cases hus6 with
      | cons q0 r => cases r with
        | cons q1 r => cases r with
          | cons q2 r => exact .cons q0 (.cons q1 (.cons q2 .nil))
    refine lc_list (K := K) (a := sl) (xs := [v0, v1, v2]) (fun i H' => But s1 H6 H' ∧ WAt O C H' s1 Z (Z.rem R0 ([b0, b1, b2].take i)) ([b0, b1, b2].take i) ∧ H' L2 = some (.lst (nints ((List.range i).map fun j => (Z.rem R0 ([b0, b1, b2].take (j + 1))).length))))
      ⟨.of (same_upd nL2), by rw [List.take_zero, Wp.rem_nil]; exact S6.W1.same (same_upd nL2), upd_same⟩ (fun i H' _ ⟨e, _⟩ => SqL.of (e _ _ slw hsl)) ?_ ?_
    · rintro i v H8 hi ⟨b8, W8, hL8⟩
      have lt : i < [b0, b1, b2].length := by rw [← hus3.length]; exact (List.getElem?_eq_some_iff.mp hi).1
      have ei := List.getElem?_eq_getElem lt
      obtain ⟨v', hv', hc⟩ := Paired.get? (i := i) hus3 ei
      obtain rfl : v' = v := Option.some.inj (hv'.symm.trans hi)
      have mem3 : ∀ b ∈ [b0, b1, b2], b ∈ [b0, b1, b2, b3] := fun b hb => by
        simp only [List.mem_cons, List.not_mem_nil, or_false] at hb ⊢
        rcases hb with z | z | z <;> simp [z]
      have hm := hval _ (mem3 _ (List.getElem_mem lt))
      have tk1 : [b0, b1, b2].take (i + 1) = [b0, b1, b2].take i ++ [[b0, b1, b2][i]] := by rw [List.take_add_one, ei]; rfl
      have rne : Z.rem R0 ([b0, b1, b2].take (i + 1)) ≠ [] := hT _ fun b hb => mem3 b (List.mem_of_mem_take hb)
      have ll : ([b0, b1, b2].take i).length ≤ i := List.length_take_le _ _
      have i3 : i < 3 := lt
      generalize [b0, b1, b2][i] = b at hc hm tk1
      have rn2 : Z.rem (Z.rem R0 ([b0, b1, b2].take i)) [((b.1.1, b.1.2), b.2)] ≠ [] := by
        rw [Wp.rem_rem]
        rw [tk1] at rne
        exact rne
      obtain ⟨u, y, rfl, hu', hy⟩ := hc
      have tk8 := S6.W1.tk b8
      obtain ⟨dx, a1, a2, a3, a4, hi8⟩ := W8.ins
      refine ⟨rfl, _, rfl, s1, dx, _, rfl, hi8, wf_no (by decide +kernel) (by decide +kernel) (by decide +kernel) (by decide +kernel), _, rfl, u, _, 0, _, rfl, rfl, SqT.of (tk8 _ _ hu'), atI_nat (j := 0) rfl, _, rfl, u, _, 1, _, rfl, rfl, SqT.of (tk8 _ _ hu'), atI_nat (j := 1) rfl, _, rfl, u, _, 2, _, rfl, rfl, SqT.of (tk8 _ _ hu'), atI_nat (j := 2) rfl, ?_⟩
      refine nil_of ?_
      refine use_see W8 (OptStop.keep tk8 hy) hm.1 hm.2.1 hm.2.2 rn2 (Nat.le_trans Wp.rem_len (by omega)) (by omega) fun H9 b9 W9 => ?_
      have hL9 := b9 _ _ L2w hL8
      refine ⟨_, hL9, by rw [nints_len, List.length_map, List.length_range]; exact small1000 (by omega), fun q o n e => ?_, ?_, ?_⟩
      · rw [upd_ne (ne_of_none e nL2)]
        exact b9 _ _ n (b8 _ _ n e)
      · have W10 := W9.ints (.upd (o := HO.lst (nints ((List.range i).map fun j => (Z.rem R0 ([b0, b1, b2].take (j + 1))).length) ++ [V.int (Z.rem (Z.rem R0 ([b0, b1, b2].take i)) [((b.1.1, b.1.2), b.2)]).length]))) hL9 L2F rn2 (by simp)
        rw [Wp.rem_rem] at W10
        rw [tk1, Wp.rem_rem]
        exact W10
      · rw [upd_same, List.range_succ, List.map_append, nints_app]
        show some (HO.lst _) = some (HO.lst (_ ++ [V.int ((Z.rem R0 ([b0, b1, b2].take (i + 1))).length : Nat)]))
        rw [tk1, Wp.rem_rem]
    rintro H7 ⟨b7, W7, hL7⟩
    have W7 : WAt O C H7 s1 Z (Z.rem R0 [b0, b1, b2]) [b0, b1, b2] := W7
    have hL7 : H7 L2 = some (.lst (nints [(Z.rem R0 [b0]).length, (Z.rem R0 [b0, b1]).length, (Z.rem R0 [b0, b1, b2]).length])) := hL7
    have S7 := S6.see1 b7 W7 n21 n31
    have hFL7 := b7 _ _ (S6.W1.ne hFL6) hFL6
    have hus7 := Paired.mapP hus6 fun _ _ z => ObsAt.keep (S6.W1.tk b7) z
    clear W7 b7 hus3 S6 hsl hFL6 hus6 nL2 slw L2w
    have WN : ¬ ("see_all" : Str) = "net" ∧ ¬ ("see_all" : Str) = "ways" ∧ ¬ ("see_all" : Str) = "remaining" ∧ ¬ ("see_all" : Str) = "accepted" := by decide +kernel
    have sub3 : ∀ b ∈ [b0, b1, b2], b ∈ [b0, b1, b2, b3] := fun b hb => by
      simp only [List.mem_cons, List.not_mem_nil, or_false] at hb ⊢
      rcases hb with z | z | z <;> simp [z]
    have rn0 : Z.rem R0 [b0] ≠ [] := hT _ fun b hb => by rw [List.mem_singleton.mp hb]; exact m0
    have rn3 : Z.rem R0 [b0, b1, b2] ≠ [] := hT _ sub3
    have rl0 : (Z.rem R0 [b0]).length ≤ 100 := Nat.le_trans Wp.rem_len (by omega)
    have rl3 : (Z.rem R0 [b0, b1, b2]).length ≤ 100 := Nat.le_trans Wp.rem_len (by omega)
    have er3 : Z.rem (Z.rem R0 [b0]) [b1, b2] = Z.rem R0 [b0, b1, b2] := Wp.rem_rem
    -- the second sees the first letter
    obtain ⟨dx, fs0, hi, hm⟩ := S7.W2.look "see_all" WN.1 WN.2.1 WN.2.2.1 WN.2.2.2
    refine ⟨_, rfl, s2, dx, fs0, rfl, hi, hm, _, rfl, FL, _, 0, _, rfl, rfl, SqL.of hFL7, atI_nat (j := 0) rfl, ?_⟩
    refine nil_of ?_
    refine use_all (obs := [b0]) S7.W2 (.cons (paired4 hus7).1 .nil) (fun b hb => by rw [List.mem_singleton.mp hb]; exact hval _ m0) rn0 (by omega) (by show 0 + 1 ≤ 500; decide) fun H8 b8 W8 => ?_
    have W8 : WAt O C H8 s2 Z (Z.rem R0 [b0]) [b0] := W8
    have S8 := S7.see2 b8 W8 n21.symm n32
    have hFL8 := b8 _ _ (S7.W2.ne hFL7) hFL7
    have hL8 := b8 _ _ (S7.W2.ne hL7) hL7
    have hus8 := Paired.mapP hus7 fun _ _ z => ObsAt.keep (S7.W2.tk b8) z
    clear S7 hFL7 hL7 hus7 b8 W8 hi hm
    -- nothing
    obtain ⟨dx, fs0, hi, hm⟩ := S8.W2.look "see_all" WN.1 WN.2.1 WN.2.2.1 WN.2.2.2
    refine ⟨_, rfl, s2, dx, fs0, rfl, hi, hm, ?_⟩
    refine nil_of ?_
    refine use_all (obs := []) (us := []) S8.W2 .nil (fun b hb => by cases hb) (by rw [Wp.rem_nil]; exact rn0) rl0 (by show 1 + 0 ≤ 500; decide) fun H9 b9 W9 => ?_
    rw [Wp.rem_nil] at W9 ⊢
    have W9 : WAt O C H9 s2 Z (Z.rem R0 [b0]) [b0] := W9
    have S9 := S8.see2 b9 W9 n21.symm n32
    have hFL9 := b9 _ _ (S8.W2.ne hFL8) hFL8
    have hL9 := b9 _ _ (S8.W2.ne hL8) hL8
    have hus9 := Paired.mapP hus8 fun _ _ z => ObsAt.keep (S8.W2.tk b9) z
    clear S8 hFL8 hL8 hus8 b9 W9 hi hm
    -- two letters
    obtain ⟨dx, fs0, hi, hm⟩ := S9.W2.look "see_all" WN.1 WN.2.1 WN.2.2.1 WN.2.2.2
    refine ⟨_, rfl, s2, dx, fs0, rfl, hi, hm, _, rfl, FL, _, 1, _, rfl, rfl, SqL.of hFL9, atI_nat (j := 1) rfl, _, rfl, FL, _, 2, _, rfl, rfl, SqL.of hFL9, atI_nat (j := 2) rfl, ?_⟩
    refine nil_of ?_
    refine use_all (obs := [b1, b2]) S9.W2 (.cons (paired4 hus9).2.1 (.cons (paired4 hus9).2.2.1 .nil)) (fun b hb => hval _ (by simp only [List.mem_cons, List.not_mem_nil, or_false] at hb ⊢; rcases hb with z | z <;> simp [z])) (by rw [er3]; exact rn3) rl0 (by show 1 + 2 ≤ 500; decide) fun HA bA WA => ?_
    rw [er3] at WA ⊢
    have WA : WAt O C HA s2 Z (Z.rem R0 [b0, b1, b2]) [b0, b1, b2] := WA
    have SA := S9.see2 bA WA n21.symm n32
    have hFLA := bA _ _ (S9.W2.ne hFL9) hFL9
    have hLA := bA _ _ (S9.W2.ne hL9) hL9
    have husA := Paired.mapP hus9 fun _ _ z => ObsAt.keep (S9.W2.tk bA) z
    clear S9 hFL9 hL9 hus9 bA WA hi hm
    refine ⟨(by show 3 ≤ sizeLine; decide), fun fd nfd => ?_⟩
    have sf := same_upd (o := HO.lst (nints [(Z.rem R0 [b0]).length, (Z.rem R0 [b0]).length, (Z.rem R0 [b0, b1, b2]).length])) nfd
    have hfd : (upd HA fd (.lst (nints [(Z.rem R0 [b0]).length, (Z.rem R0 [b0]).length, (Z.rem R0 [b0, b1, b2]).length]))) fd = _ := upd_same
    have fdd : d ≠ fd := by
      obtain ⟨_, _, _, _, _, hd⟩ := id SA.D
      exact ne_of_none hd nfd
    have fdF : fd ∉ Z.F := SA.N.new nfd
    have fdL : L2 ≠ fd := ne_of_none hLA nfd
    have fdFL : FL ≠ fd := ne_of_none hFLA nfd
    have SB := SA.same sf
    have hFLB := sf _ _ hFLA
    have hLB := sf _ _ hLA
    have husB := Paired.mapP husA fun _ _ z => ObsAt.keep (tk_of sf) z
    replace hfd : (upd HA fd (.lst (nints [(Z.rem R0 [b0]).length, (Z.rem R0 [b0]).length, (Z.rem R0 [b0, b1, b2]).length]))) fd = some (.lst (nints [(Z.rem R0 [b0]).length, (Z.rem R0 [b0]).length, (Z.rem R0 [b0, b1, b2]).length])) := hfd
    obtain ⟨HB, eHB⟩ : ∃ HB, HB = upd HA fd (.lst (nints [(Z.rem R0 [b0]).length, (Z.rem R0 [b0]).length, (Z.rem R0 [b0, b1, b2]).length])) := ⟨_, rfl⟩
    rw [← eHB] at SB hFLB hLB husB hfd sf
    -- the third
    obtain ⟨dx, fs0, hi, hm⟩ := SB.W3.look "see_all" WN.1 WN.2.1 WN.2.2.1 WN.2.2.2
    change _ at hfd
    have goal_eq : upd HA fd (.lst [.int (Z.rem R0 [b0]).length, .int (Z.rem R0 [b0]).length, .int (Z.rem R0 [b0, b1, b2]).length]) = HB := eHB.symm
    rw [goal_eq]
    clear goal_eq eHB SA hFLA hLA husA sf nfd
    refine ⟨_, rfl, .inl ⟨rfl, _, SqL.of hfd⟩, _, rfl, s3, dx, fs0, rfl, hi, hm, _, rfl, FL, _, 0, _, rfl, rfl, SqL.of hFLB, atI_nat (j := 0) rfl, _, rfl, FL, _, 1, _, rfl, rfl, SqL.of hFLB, atI_nat (j := 1) rfl, _, rfl, FL, _, 2, _, rfl, rfl, SqL.of hFLB, atI_nat (j := 2) rfl, ?_⟩
    refine nil_of ?_
    obtain ⟨q0, q1, q2, q3⟩ := paired4 husB
    refine use_all (obs := [b0, b1, b2]) SB.W3 (.cons q0 (.cons q1 (.cons q2 .nil))) (fun b hb => hval _ (sub3 b hb)) rn3 (by omega) (by show 0 + 3 ≤ 500; decide) fun HC bC WC => ?_
    have WC : WAt O C HC s3 Z (Z.rem R0 [b0, b1, b2]) [b0, b1, b2] := WC
    have SC := SB.see3 bC WC n31.symm n32.symm
    have hFLC := bC _ _ (SB.W3.ne hFLB) hFLB
    have hLC := bC _ _ (SB.W3.ne hLB) hLB
    have hfdC := bC _ _ (SB.W3.ne hfd) hfd
    have husC := Paired.mapP husB fun _ _ z => ObsAt.keep (SB.W3.tk bC) z
    clear SB hFLB hLB husB hfd bC WC hi hm q0 q1 q2 q3
    refine ⟨fd, _, _, rfl, rfl, hfdC, (by show 3 < sizeLine; decide), ?_⟩
    have bD : But fd HC (upd HC fd (.lst (nints [(Z.rem R0 [b0]).length, (Z.rem R0 [b0]).length, (Z.rem R0 [b0, b1, b2]).length] ++ [.int (Z.rem R0 [b0, b1, b2]).length]))) := .upd
    have hfdD : (upd HC fd (.lst (nints [(Z.rem R0 [b0]).length, (Z.rem R0 [b0]).length, (Z.rem R0 [b0, b1, b2]).length] ++ [.int (Z.rem R0 [b0, b1, b2]).length]))) fd = some (.lst (nints [(Z.rem R0 [b0]).length, (Z.rem R0 [b0]).length, (Z.rem R0 [b0, b1, b2]).length, (Z.rem R0 [b0, b1, b2]).length])) := upd_same
    generalize upd HC fd (.lst (nints [(Z.rem R0 [b0]).length, (Z.rem R0 [b0]).length, (Z.rem R0 [b0, b1, b2]).length] ++ [.int (Z.rem R0 [b0, b1, b2]).length])) = HD at bD hfdD
    have SD := SC.ints bD hfdC fdd fdF (by simp) rn3 (by simp) rn3 (by simp) rn3 (by simp)
    have hFLD := bD _ _ fdFL hFLC
    have hLD := bD _ _ fdL hLC
    have husD := Paired.mapP husC fun _ _ z => ObsAt.keep (fun c xs z => bD c _ (ne_of z hfdC (by intro y; cases y)) z) z
    clear SC hFLC hLC hfdC husC bD fdd fdF fdL fdFL
    -- as many are left
    refine ⟨_, rfl, _, rfl, L2, _, 0, _, rfl, rfl, SqL.of hLD, atI_nat (j := 0) rfl, _, rfl, L2, _, 0, _, rfl, rfl, SqL.of hLD, atI_nat (j := 0) rfl, _, rfl, L2, _, 2, _, rfl, rfl, SqL.of hLD, atI_nat (j := 2) rfl, _, rfl, L2, _, 2, _, rfl, rfl, SqL.of hLD, atI_nat (j := 2) rfl, (by show 4 ≤ sizeLine; decide), fun l4 nl4 => ?_⟩
    have s4 := same_upd (o := HO.lst (nints [(Z.rem R0 [b0]).length, (Z.rem R0 [b0]).length, (Z.rem R0 [b0, b1, b2]).length, (Z.rem R0 [b0, b1, b2]).length])) nl4
    refine ⟨.ref fd, .ref l4, rfl, .inr (.inr ⟨fd, l4, _, _, rfl, rfl, s4 _ _ hfdD, upd_same, by show 4 ≤ 1000; decide, .cons Eqv.int (.cons Eqv.int (.cons Eqv.int (.cons Eqv.int .nil)))⟩), fun HE sE => ⟨_, rfl, iteF ?_⟩⟩
    have sDE := s4.trans sE
    have SE := SD.same sDE
    have hFLE := sDE _ _ hFLD
    have husE := Paired.mapP husD fun _ _ z => ObsAt.keep (tk_of sDE) z
    clear SD hFLD hLD hfdD husD sDE s4 sE nl4
    -- what they say of themselves
    refine ⟨_, rfl, _, rfl, _, rfl, (by show 3 ≤ sizeLine; decide), fun wl nwl => ?_⟩
    have sw := same_upd (o := HO.lst [.ref s1, .ref s2, .ref s3]) nwl
    have hwl : (upd HE wl (.lst [.ref s1, .ref s2, .ref s3])) wl = some (.lst [.ref s1, .ref s2, .ref s3]) := upd_same
    have SF := SE.same sw
    have hFLF := sw _ _ hFLE
    have husF := Paired.mapP husE fun _ _ z => ObsAt.keep (tk_of sw) z
    refine ⟨wl, rfl, ⟨_, SqL.of upd_same⟩, fun L nL => ?_⟩
    have nL : (upd HE wl (.lst [.ref s1, .ref s2, .ref s3])) L = none := nL
    generalize upd HE wl (.lst [.ref s1, .ref s2, .ref s3]) = HF at hwl SF hFLF husF nL ⊢
    clear SE hFLE husE sw nwl
    refine lc_list (K := K) (a := wl) (xs := [.ref s1, .ref s2, .ref s3]) (fun i H' => Same HF H' ∧ ∃ us : List Addr, us.length = i ∧ H' L = some (.lst (us.map V.ref)) ∧ ∀ u ∈ us, StL L H' u (Z.rem R0 [b0, b1, b2]) [b0, b1, b2]) ⟨same_upd nL, [], rfl, upd_same, fun u hu => by cases hu⟩ (fun i H' _ ⟨e, _⟩ => SqL.of (e _ _ hwl)) ?_ ?_
    · rintro i v H7 hi7 ⟨s7, us, ul, hL7, hus7⟩
      obtain ⟨s, rfl, W⟩ : ∃ s, v = .ref s ∧ WAt O C HF s Z (Z.rem R0 [b0, b1, b2]) [b0, b1, b2] := by
        match i, hi7 with
        | 0, e => exact ⟨s1, (Option.some.inj e).symm, SF.W1⟩
        | 1, e => exact ⟨s2, (Option.some.inj e).symm, SF.W2⟩
        | 2, e => exact ⟨s3, (Option.some.inj e).symm, SF.W3⟩
        | i + 3, e => simp at e
      have i3 : i < 3 := by
        have := (List.getElem?_eq_some_iff.mp hi7).1
        exact this
      obtain ⟨dx, a1, a2, a3, a4, hi⟩ := W.ins
      refine ⟨rfl, _, rfl, s, dx, _, rfl, s7 _ _ hi, ?_⟩
      refine use_cands (W.same s7) fun H8 c cv s8 nc hc hcv => ?_
      have s78 := s7.trans s8
      refine ⟨_, rfl, s, dx, _, rfl, s78 _ _ hi, ?_⟩
      refine use_hist (W.same s78) fun H9 g gv s9 ng hg hgv => ⟨(by show 2 ≤ sizeLine; decide), fun u nu => ?_⟩
      have su := same_upd (o := HO.lst [.ref c, .ref g]) nu
      have s7u := s8.trans (s9.trans su)
      have hLu := s7u _ _ hL7
      have nuL : u ≠ L := (ne_of_none ((s8.trans s9) _ _ hL7) nu).symm
      have ncL : c ≠ L := (ne_of_none hL7 nc).symm
      have ngL : g ≠ L := (ne_of_none (s8 _ _ hL7) ng).symm
      have snew : StL L (upd H9 u (.lst [.ref c, .ref g])) u (Z.rem R0 [b0, b1, b2]) [b0, b1, b2] := ⟨nuL, c, g, cv, gv, ncL, ngL, upd_same, (s9.trans su) _ _ hc, su _ _ hg, Paired.mapP hcv fun _ _ z => z.keep (tk_of (s9.trans su)), Paired.mapP hgv fun _ _ z => ObsAt.keep (tk_of su) z⟩
      refine ⟨us.map V.ref, hLu, by rw [List.length_map, ul]; exact small1000 (by omega), fun q ob e => ?_, us ++ [u], by rw [List.length_append, ul]; rfl, by rw [upd_same, List.map_append]; rfl, fun u' hu' => ?_⟩
      · rw [upd_ne (ne_of_none e nL)]
        exact s7u _ _ (s7 _ _ e)
      · rcases List.mem_append.mp hu' with z | z
        · exact ((hus7 u' z).same s7u).updL hLu
        · rw [List.mem_singleton.mp z]
          exact snew.updL hLu
    rintro H7 ⟨s7, us, ul, hL7, hus7⟩
    match us, ul with
    | [u0, u1, u2], _ =>
    have st0 := (hus7 u0 (by simp)).sta
    have st1 := (hus7 u1 (by simp)).sta
    have st2 := (hus7 u2 (by simp)).sta
    have S7 := SF.same s7
    have hFL7 := s7 _ _ hFLF
    have husx := Paired.mapP husF fun _ _ z => ObsAt.keep (tk_of s7) z
    clear hus7 SF hFLF husF s7 nL hwl
    have hL7 : H7 L = some (.lst [.ref u0, .ref u1, .ref u2]) := hL7
    -- the same of all
    refine ⟨_, rfl, _, rfl, L, _, 0, _, rfl, rfl, SqL.of hL7, atI_nat (j := 0) rfl, _, rfl, L, _, 0, _, rfl, rfl, SqL.of hL7, atI_nat (j := 0) rfl, _, rfl, L, _, 0, _, rfl, rfl, SqL.of hL7, atI_nat (j := 0) rfl, (by show 3 ≤ sizeLine; decide), fun l3 nl3 => ?_⟩
    have s3' := same_upd (o := HO.lst [.ref u0, .ref u0, .ref u0]) nl3
    have hl3 : (upd H7 l3 (.lst [.ref u0, .ref u0, .ref u0])) l3 = some (.lst [.ref u0, .ref u0, .ref u0]) := upd_same
    generalize upd H7 l3 (.lst [.ref u0, .ref u0, .ref u0]) = H8 at s3' hl3
    have st0' := st0.same s3'
    have rl1000 : (Z.rem R0 [b0, b1, b2]).length ≤ 1000 := by omega
    refine ⟨.ref L, .ref l3, rfl, .inr (.inr ⟨L, l3, _, _, rfl, rfl, s3' _ _ hL7, hl3, by show 3 ≤ 1000; decide, .cons (sta_eqv st0' st0' rl1000 (by show 3 ≤ 1000; decide)) (.cons (sta_eqv (st1.same s3') st0' rl1000 (by show 3 ≤ 1000; decide)) (.cons (sta_eqv (st2.same s3') st0' rl1000 (by show 3 ≤ 1000; decide)) .nil))⟩), fun H9 s9 => ⟨true, rfl, iteF ?_⟩⟩
    have s79 := s3'.trans s9
    have S9 := S7.same s79
    have hFL9 := s79 _ _ hFL7
    have hus9 := Paired.mapP husx fun _ _ z => ObsAt.keep (tk_of s79) z
    have hL9 := s79 _ _ hL7
    have st9 := st0.same s79
    clear S7 hFL7 husx hL7 st0 st1 st2 st0' s79 s3' s9 hl3 nl3 H8
    obtain ⟨c0, g0, cv0, gv0, hu0, hc0, hg0, hcv0, hgv0⟩ := id st9
    refine ⟨_, rfl, L, _, 0, _, rfl, rfl, SqL.of hL9, atI_nat (j := 0) rfl, u0, _, 1, _, rfl, rfl, SqL.of hu0, atI_nat (j := 1) rfl, _, rfl, 3, rfl, FL, _, rfl, SqL.of hFL9, fun sl nsl => ?_⟩
    rw [show cutV [v0, v1, v2, v3] none (some 3) = [v0, v1, v2] from cut_to (n := 3)]
    have ss := same_upd (o := HO.lst [v0, v1, v2]) nsl
    obtain ⟨q0, q1, q2, q3⟩ := paired4 hus9
    have hsl : Paired (ObsAt (upd H9 sl (.lst [v0, v1, v2]))) [v0, v1, v2] [b0, b1, b2] := Paired.mapP (.cons q0 (.cons q1 (.cons q2 .nil))) fun _ _ z => ObsAt.keep (tk_of ss) z
    refine ⟨.list ([b0, b1, b2].map obD), .list ([b0, b1, b2].map obD), .lst (SqL.of (ss _ _ hg0)) (ob_dp (Paired.mapP hgv0 fun _ _ z => ObsAt.keep (tk_of ss) z)), .lst (SqL.of upd_same) (ob_dp hsl), shL (ob_good _), shL (ob_good _), false, congrArg V.bl (eqv_selfN (shL (ob_good _))), iteF ?_⟩
    have SA := S9.same ss
    have hFLA := ss _ _ hFL9
    have husA := Paired.mapP hus9 fun _ _ z => ObsAt.keep (tk_of ss) z
    have hLA := ss _ _ hL9
    have stA := st9.same ss
    generalize upd H9 sl (.lst [v0, v1, v2]) = HA at SA hFLA husA hLA stA
    clear S9 hFL9 hus9 hL9 st9 ss nsl hsl hu0 hc0 hg0 hcv0 hgv0 q0 q1 q2 q3 c0 g0 cv0 gv0
    obtain ⟨u3, y3, rfl, hu3, hy3⟩ := (paired4 husA).2.2.2
    obtain ⟨hv1, hv2, hv3⟩ := hval b3 m3
    have hb3 := (htrue b3 m3).2.1
    refine ⟨_, rfl, FL, _, 3, _, rfl, rfl, SqL.of hFLA, atI_nat (j := 3) rfl, u3, _, rfl, SqT.of hu3, rfl, _, _, rfl, _, _, rfl, _, _, rfl, rfl, ?_⟩
    clear hu3 hy3
    have dZ : d ∉ Z.F := by rw [ZF]; exact dF
    refine ⟨fun σ' H' => ∃ v, σ' = [some (.ref a), some (.ref d), some (.int k), some (.ref w0), some tv, y5, some (.ref s2), some (.ref s3), some (.ref L2), some (.ref fd), some (.ref L), some y3, none, some (.int b3.1.2), none, some (.int b3.1.1), some (.ref FL), some (.ref x), some v, some (.ref pa), some (.ref s1), none, none, none] ∧ OddAt Z.h H' v ∧ S15 C O Z [(Pt, qL)] d pa t x s1 s2 s3 FL [b0, b1, b2, b3] (Z.rem R0 [b0, b1, b2]) [b0, b1, b2] (Z.rem R0 [b0, b1, b2]) [b0, b1, b2] (Z.rem R0 [b0, b1, b2]) [b0, b1, b2] H' ∧ (∃ us, H' FL = some (.lst us) ∧ Paired (ObsAt H') us [b0, b1, b2, b3]) ∧ H' L = some (.lst [.ref u0, .ref u1, .ref u2]) ∧ StA H' u0 (Z.rem R0 [b0, b1, b2]) [b0, b1, b2], ?_, ?_⟩
    · refine ⟨(by show 1 ≤ sizeLine; decide), fun e1 n1 => ?_⟩
      have q1 := same_upd (o := HO.tup [.int 1]) n1
      have k1' := (upd_same : (upd HA e1 (.tup [.int 1])) e1 = _)
      generalize upd HA e1 (.tup [.int 1]) = G1 at q1 k1'
      refine ⟨_, rfl, pa, _, 1, _, rfl, rfl, SqT.of (q1 _ _ SA.pa), atI_nat (j := 1) rfl, (by show 2 ≤ sizeLine; decide), fun e2 n2 => ?_⟩
      have q2 := same_upd (o := HO.tup [.int Z.h, .int 3]) n2
      have k2' := (upd_same : (upd G1 e2 (.tup [.int Z.h, .int 3])) e2 = _)
      generalize upd G1 e2 (.tup [.int Z.h, .int 3]) = G2 at q2 k2'
      refine ⟨(by show 2 ≤ sizeLine; decide), fun e3 n3 => ?_⟩
      have q3 := same_upd (o := HO.tup [.int 0, .non]) n3
      have k3' := (upd_same : (upd G2 e3 (.tup [.int 0, .non])) e3 = _)
      generalize upd G2 e3 (.tup [.int 0, .non]) = G3 at q3 k3'
      refine ⟨(by show 2 ≤ sizeLine; decide), fun e4 n4 => ?_⟩
      have q4 := same_upd (o := HO.tup [.int 0, .bl true]) n4
      have k4' := (upd_same : (upd G3 e4 (.tup [.int 0, .bl true])) e4 = _)
      generalize upd G3 e4 (.tup [.int 0, .bl true]) = G4 at q4 k4'
      refine ⟨(by show 2 ≤ sizeLine; decide), fun e5 n5 => ?_⟩
      have q5 := same_upd (o := HO.tup [.non, .int 3]) n5
      have k5' := (upd_same : (upd G4 e5 (.tup [.non, .int 3])) e5 = _)
      generalize upd G4 e5 (.tup [.non, .int 3]) = G5 at q5 k5'
      refine ⟨(by show 2 ≤ sizeLine; decide), fun e6 n6 => ?_⟩
      have q6 := same_upd (o := HO.lst [.int 0, .int 3]) n6
      have k6' := (upd_same : (upd G5 e6 (.lst [.int 0, .int 3])) e6 = _)
      have q16 := q1.trans (q2.trans (q3.trans (q4.trans (q5.trans q6))))
      have n6d : e6 ≠ d := by
        obtain ⟨_, _, _, _, _, hd⟩ := id SA.D
        exact (ne_of_none ((q1.trans (q2.trans (q3.trans (q4.trans q5)))) _ _ hd) n6).symm
      generalize upd G5 e6 (.lst [.int 0, .int 3]) = G6 at q6 k6' q16
      refine ⟨(by show 8 ≤ sizeLine; decide), fun l8 nl8 => ?_⟩
      have q7 := same_upd (o := HO.lst [.int 5, .ref e1, .ref e2, .ref e3, .ref e4, .ref e5, .ref e6, .str "0"]) nl8
      have k7' := (upd_same : (upd G6 l8 (.lst [.int 5, .ref e1, .ref e2, .ref e3, .ref e4, .ref e5, .ref e6, .str "0"])) l8 = _)
      have q17 := q16.trans q7
      have n8d : l8 ≠ d := by
        obtain ⟨_, _, _, _, _, hd⟩ := id SA.D
        exact (ne_of_none (q16 _ _ hd) nl8).symm
      generalize upd G6 l8 (.lst [.int 5, .ref e1, .ref e2, .ref e3, .ref e4, .ref e5, .ref e6, .str "0"]) = G7 at q7 k7' q17
      have SG := SA.same q17
      have usG : ∃ us, G7 FL = some (.lst us) ∧ Paired (ObsAt G7) us [b0, b1, b2, b3] := ⟨_, q17 _ _ hFLA, Paired.mapP husA fun _ _ z => ObsAt.keep (tk_of q17) z⟩
      have stG := stA.same q17
      have hLG := q17 _ _ hLA
      refine ⟨_, rfl, d, 8, rfl, SG.D, by decide, by decide, fun G8 r hr8 b8 D8 => ?_⟩
      have k8 := b8.tk SG.D
      have SH := SG.but b8 D8 dZ
      have LHd : L ≠ d := dl_ne (R := fun _ => True) SG.D hLG (fun v hv => by
        simp only [List.mem_cons, List.not_mem_nil, or_false] at hv
        rcases hv with z | z | z <;> exact ⟨_, z⟩)
      have hLH := b8 _ _ LHd hLG
      have stH := stG.but b8 SG.D
      have usH : ∃ us, G8 FL = some (.lst us) ∧ Paired (ObsAt G8) us [b0, b1, b2, b3] := SH.F
      have hl := b8 _ _ n8d k7'
      have z1 := k8 _ _ ((q2.trans (q3.trans (q4.trans (q5.trans (q6.trans q7))))) _ _ k1')
      have z2 := k8 _ _ ((q3.trans (q4.trans (q5.trans (q6.trans q7)))) _ _ k2')
      have z3 := k8 _ _ ((q4.trans (q5.trans (q6.trans q7))) _ _ k3')
      have z4 := k8 _ _ ((q5.trans (q6.trans q7)) _ _ k4')
      have z5 := k8 _ _ ((q6.trans q7) _ _ k5')
      have z6 := b8 _ _ n6d (q7 _ _ k6')
      have h1Z : 1 ≤ Z.h := by rw [Zh]; exact ok.h1
      match r, hr8 with
      | 0, _ => exact ⟨l8, _, 0, _, rfl, rfl, SqL.of hl, atI_nat (j := 0) rfl, _, rfl, .int, SH, usH, hLH, stH⟩
      | 1, _ => exact ⟨l8, _, 1, _, rfl, rfl, SqL.of hl, atI_nat (j := 1) rfl, _, rfl, .tup z1 (by decide) (by show 1 < 1000; decide), SH, usH, hLH, stH⟩
      | 2, _ => exact ⟨l8, _, 2, _, rfl, rfl, SqL.of hl, atI_nat (j := 2) rfl, _, rfl, .pair z2 .int .int (.inl (wN (by omega))), SH, usH, hLH, stH⟩
      | 3, _ => exact ⟨l8, _, 3, _, rfl, rfl, SqL.of hl, atI_nat (j := 3) rfl, _, rfl, .pair z3 .int .non (.inr rfl), SH, usH, hLH, stH⟩
      | 4, _ => exact ⟨l8, _, 4, _, rfl, rfl, SqL.of hl, atI_nat (j := 4) rfl, _, rfl, .pair z4 .int .bl (.inr rfl), SH, usH, hLH, stH⟩
      | 5, _ => exact ⟨l8, _, 5, _, rfl, rfl, SqL.of hl, atI_nat (j := 5) rfl, _, rfl, .pair z5 .non .int (.inl rfl), SH, usH, hLH, stH⟩
      | 6, _ => exact ⟨l8, _, 6, _, rfl, rfl, SqL.of hl, atI_nat (j := 6) rfl, _, rfl, .lst z6, SH, usH, hLH, stH⟩
      | 7, _ => exact ⟨l8, _, 7, _, rfl, rfl, SqL.of hl, atI_nat (j := 7) rfl, _, rfl, .str, SH, usH, hLH, stH⟩
      | r + 8, hz => exact absurd hz (by omega)
    clear SA hFLA husA hLA stA
    rintro σ H1 ⟨odd, rfl, O1, S1, _, hL1, st1⟩
    have hZh1 : 1 ≤ Z.h := by rw [Zh]; exact ok.h1
    have rn4 : Z.rem (Z.rem R0 [b0, b1, b2]) [b3] ≠ [] := by
      rw [Wp.rem_rem]
      exact hT _ fun b hb => hb
    have ob3 : ∀ b ∈ [b3], b.1.1 < Z.h ∧ b.1.2 ≤ 1000000000000000000 ∧ ∀ c, b.2 = some c → c.1 < Z.h := fun b hb => by rw [List.mem_singleton.mp hb]; exact hval b3 m3
    refine ⟨S1.T, fun f1 HB eB TB M1 => ?_⟩
    have SB := S1.extN eB TB
    have OB := O1.extN eB
    have hLB := ExtN.lst eB hL1
    have stB := st1.extN eB
    clear S1 O1 hL1 st1
    refine ⟨SB.T, fun f2 HC eC TC M2 => ?_⟩
    have M1 := M1.extN eC
    have SC := SB.extN eC TC
    have OC := OB.extN eC
    have hLC := ExtN.lst eC hLB
    have stC := stB.extN eC
    clear SB OB hLB stB eB TB eC TC
    refine ⟨(by show 2 ≤ sizeLine; decide), fun l nl => ?_⟩
    have sl := same_upd (o := HO.lst [.ref f1, .ref f2]) nl
    have hl := (upd_same : (upd HC l (.lst [.ref f1, .ref f2])) l = _)
    generalize upd HC l (.lst [.ref f1, .ref f2]) = HD at sl hl
    refine ⟨_, rfl, (by show 2 ≤ sizeLine; decide), fun e ne => ?_⟩
    have se := same_upd (o := HO.tup [.str "result", .int 0]) ne
    have he := (upd_same : (upd HD e (.tup [.str "result", .int 0])) e = _)
    have hl := se _ _ hl
    generalize upd HD e (.tup [.str "result", .int 0]) = HE at se he hl
    have sle := sl.trans se
    have M1 := M1.same sle
    have M2 := M2.same sle
    have SE := SC.same sle
    have OE := OC.same sle
    have hLE := sle _ _ hLC
    have stE := stC.same sle
    clear SC OC hLC stC sl se sle nl ne
    refine fun cs fit no => ⟨l, e, [f1, f2], rfl, rev_up no hl, (by show 2 ≤ 60; decide), rev_up no he, fun g hg => ?_, fun H' s' => ⟨true, rfl, iteF ?_⟩⟩
    · rcases List.mem_cons.mp hg with rfl | hg
      · refine ⟨_, M1.val fit no, fun H' EE QQ s' hE => ?_⟩
        have sh := same_hid no s'
        have Sh := SE.same sh
        have Oh := OE.same sh
        obtain ⟨dxh, fsh, hih, hmh⟩ := Sh.W1.look "see" (by decide +kernel) (by decide +kernel) (by decide +kernel) (by decide +kernel)
        refine ⟨_, rfl, s1, dxh, fsh, rfl, hih, hmh, _, rfl, _, rfl, _, rfl, ?_⟩
        refine nil_of ?_
        refine use_seeB Sh.W1 (.inr (.inr ⟨⟨by omega, by omega⟩, ⟨by omega, by omega⟩, Oh, rfl⟩)) rn3 rl3 fun H2 s2 => ?_
        exact hE _ (same_rev (seen_rev.same s') s2)
      · obtain rfl := List.mem_singleton.mp hg
        refine ⟨_, M2.val fit no, fun H' EE QQ s' hE => ?_⟩
        have sh := same_hid no s'
        have Sh := SE.same sh
        have Oh := OE.same sh
        obtain ⟨dxh, fsh, hih, hmh⟩ := Sh.W1.look "see_all" WN.1 WN.2.1 WN.2.2.1 WN.2.2.2
        obtain ⟨us, hFLh, hush⟩ := id Sh.F
        obtain ⟨t0, t1, t2, t3, rfl⟩ := len4 hush.length
        refine ⟨_, rfl, s1, dxh, fsh, rfl, hih, hmh, _, rfl, FL, _, 3, _, rfl, rfl, SqL.of hFLh, atI_nat (j := 3) rfl, _, rfl, _, rfl, _, rfl, (by show 3 ≤ sizeLine; decide), fun ub nub => ?_⟩
        have su := same_upd (o := HO.tup [.int b3.1.1, .int b3.1.2, odd]) nub
        refine nil_of ?_
        refine use_allB (us0 := [t3]) (pre := [b3]) (Sh.W1.same su) (.cons (ObsAt.keep (tk_of su) (paired4 hush).2.2.2) .nil) ob3 rn4 upd_same (.inr (.inr ⟨⟨by omega, by omega⟩, ⟨by omega, by omega⟩, Oh.same su, rfl⟩)) rl3 (by show 1 ≤ 400; decide) fun H2 s2 => ?_
        exact hE _ (same_rev (seen_rev.same s') (su.trans s2))
    have sh := same_hid no s'
    have SF := SE.same sh
    have OF := OE.same sh
    have hLF := sh _ _ hLE
    have stF := stE.same sh
    clear SE OE hLE stE M1 M2 he hl no fit s' sh
    generalize hid cs H' = HF at SF OF hLF stF
    clear cs H'
    -- the house
    refine ⟨SF.T, fun H1 e1 T1 => ?_⟩
    have S1 := SF.extN e1 T1
    have O1 := OF.extN e1
    have hL1 := ExtN.lst e1 hLF
    have st1 := stF.extN e1
    clear SF OF hLF stF e1 T1
    obtain ⟨dxh, fsh, hih, hmh⟩ := S1.W1.look "see_all" WN.1 WN.2.1 WN.2.2.1 WN.2.2.2
    obtain ⟨us, hFLh, hush⟩ := id S1.F
    obtain ⟨t0, t1, t2, t3, rfl⟩ := len4 hush.length
    refine ⟨_, rfl, s1, dxh, fsh, rfl, hih, hmh, _, rfl, FL, _, 3, _, rfl, rfl, SqL.of hFLh, atI_nat (j := 3) rfl, _, rfl, pa, _, 1, _, rfl, rfl, SqT.of S1.pa, atI_nat (j := 1) rfl, _, rfl, _, rfl, (by show 3 ≤ sizeLine; decide), fun ub nub => ?_⟩
    have su := same_upd (o := HO.tup [.int Z.h, .int b3.1.2, odd]) nub
    refine nil_of ?_
    refine use_allB (us0 := [t3]) (pre := [b3]) (S1.W1.same su) (.cons (ObsAt.keep (tk_of su) (paired4 hush).2.2.2) .nil) ob3 rn4 upd_same (.inl ⟨by omega, rfl⟩) rl3 (by show 1 ≤ 400; decide) fun H2 s2 => ⟨cE 1, 1, rfl, rfl, e15 1 (by decide), by decide, fun u1' H3 s3' hu1 => ?_⟩
    refine ⟨(by show 2 ≤ sizeLine; decide), fun z nz => ?_⟩
    have sz := same_upd (o := HO.tup [.str "house", .int 0]) nz
    refine ⟨errD2 1, errD2 1, .tup (SqT.of (sz _ _ hu1)) (.cons (.str _) (.cons (.int _) .nil)), .tup (SqT.of upd_same) (.cons (.str _) (.cons (.int _) .nil)), errD2_shaped 1 (by decide), errD2_shaped 1 (by decide), false, congrArg V.bl (eqv_selfN (errD2_shaped 1 (by decide))), iteF ?_⟩
    have sx := su.trans (s2.trans (s3'.trans sz))
    have S2 := S1.same sx
    have O2 := O1.same sx
    have hL2 := sx _ _ hL1
    have st2 := st1.same sx
    generalize upd H3 z (.tup [.str "house", .int 0]) = H4 at S2 O2 hL2 st2
    clear S1 O1 hL1 st1 sx sz su s2 s3' hu1 nz nub hFLh hush hih hmh
    -- the day
    refine ⟨S2.T, fun H5 e1 T1 => ?_⟩
    have S1 := S2.extN e1 T1
    have O1 := O2.extN e1
    have hL1 := ExtN.lst e1 hL2
    have st1 := st2.extN e1
    clear S2 O2 hL2 st2 e1 T1
    obtain ⟨dxh, fsh, hih, hmh⟩ := S1.W1.look "see_all" WN.1 WN.2.1 WN.2.2.1 WN.2.2.2
    obtain ⟨us, hFLh, hush⟩ := id S1.F
    obtain ⟨t0, t1, t2, t3, rfl⟩ := len4 hush.length
    refine ⟨_, rfl, s1, dxh, fsh, rfl, hih, hmh, _, rfl, FL, _, 3, _, rfl, rfl, SqL.of hFLh, atI_nat (j := 3) rfl, _, rfl, _, _, rfl, rfl, _, rfl, (by show 3 ≤ sizeLine; decide), fun ub nub => ?_⟩
    have su := same_upd (o := HO.tup [.int b3.1.1, .int (0 - 1), odd]) nub
    refine nil_of ?_
    refine use_allB (us0 := [t3]) (pre := [b3]) (S1.W1.same su) (.cons (ObsAt.keep (tk_of su) (paired4 hush).2.2.2) .nil) ob3 rn4 upd_same (.inr (.inl ⟨⟨by omega, by omega⟩, by omega, rfl⟩)) rl3 (by show 1 ≤ 400; decide) fun H2 s2 => ⟨cE 0, 0, rfl, rfl, e15 0 (by decide), by decide, fun u1' H3 s3' hu1 => ?_⟩
    refine ⟨(by show 2 ≤ sizeLine; decide), fun z nz => ?_⟩
    have sz := same_upd (o := HO.tup [.str "day", .int 0]) nz
    refine ⟨errD2 0, errD2 0, .tup (SqT.of (sz _ _ hu1)) (.cons (.str _) (.cons (.int _) .nil)), .tup (SqT.of upd_same) (.cons (.str _) (.cons (.int _) .nil)), errD2_shaped 0 (by decide), errD2_shaped 0 (by decide), false, congrArg V.bl (eqv_selfN (errD2_shaped 0 (by decide))), iteF ?_⟩
    have sx := su.trans (s2.trans (s3'.trans sz))
    have S2 := S1.same sx
    have hL2 := sx _ _ hL1
    have st2 := st1.same sx
    generalize upd H3 z (.tup [.str "day", .int 0]) = H6 at S2 hL2 st2
    clear S1 O1 hL1 st1 sx sz su s2 s3' hu1 nz nub hFLh hush hih hmh
    -- a day far off
    refine ⟨_, rfl, _, rfl, _, rfl, _, rfl, _, _, rfl, rfl, ⟨by decide, by decide, by decide⟩, _, _, rfl, rfl, (by show 2 ≤ sizeLine; decide), fun v1' nv1 => ?_⟩
    have ef : V.int ((b3.1.2 : Int) + (10 : Int) ^ ((6 : Int).toNat)) = .int ((b3.1.2 + 1000000 : Nat) : Int) := by
      rw [Int.natCast_add]
      rfl
    have sv := same_upd (o := HO.tup [.int b3.1.1, .int ((b3.1.2 : Int) + (10 : Int) ^ ((6 : Int).toNat))]) nv1
    have hv1' : (upd H6 v1' (.tup [.int b3.1.1, .int ((b3.1.2 : Int) + (10 : Int) ^ ((6 : Int).toNat))])) v1' = some (.tup [.int b3.1.1, .int ((b3.1.2 + 1000000 : Nat) : Int)]) := by
      rw [upd_same, ef]
    refine ⟨(by show 3 ≤ sizeLine; decide), fun fa nfa => ?_⟩
    have sf := same_upd (o := HO.tup [.int b3.1.1, .int b3.1.2, .ref v1']) nfa
    have hfa := (upd_same : (upd (upd H6 v1' (.tup [.int b3.1.1, .int ((b3.1.2 : Int) + (10 : Int) ^ ((6 : Int).toNat))])) fa (.tup [.int b3.1.1, .int b3.1.2, .ref v1'])) fa = some (.tup [.int b3.1.1, .int b3.1.2, .ref v1']))
    have hv2' := sf _ _ hv1'
    have s68 := sv.trans sf
    refine ⟨tabs_same S2.T s68, fun H5 e1 T1 => ?_⟩
    have S1 := (S2.same s68).extN e1 T1
    have hL1 := ExtN.lst e1 (s68 _ _ hL2)
    have st1 := (st2.same s68).extN e1
    have Of : ObsAt H5 (.ref fa) ((b3.1.1, b3.1.2), some (b3.1.1, b3.1.2 + 1000000)) := ⟨fa, .ref v1', rfl, ExtN.tk e1 _ _ hfa, v1', rfl, ExtN.tk e1 _ _ hv2'⟩
    clear S2 hL2 st2 e1 T1 s68 sv sf nfa nv1 hfa hv1' hv2'
    obtain ⟨dxh, fsh, hih, hmh⟩ := S1.W1.look "see_all" WN.1 WN.2.1 WN.2.2.1 WN.2.2.2
    obtain ⟨us, hFLh, hush⟩ := id S1.F
    obtain ⟨t0, t1, t2, t3, rfl⟩ := len4 hush.length
    refine ⟨_, rfl, s1, dxh, fsh, rfl, hih, hmh, _, rfl, FL, _, 3, _, rfl, rfl, SqL.of hFLh, atI_nat (j := 3) rfl, _, rfl, ?_⟩
    refine nil_of ?_
    have okZ : ∀ c ∈ Z.rem R0 [b0, b1, b2], NetOk Z.p Z.h (setO Z.os Z.k Z.o c) := fun c hc => by
      have := okR c (Wp.rem_sub hc)
      rw [← hZ]
      exact this
    refine use_allX (us := [t3, .ref fa]) (pre := [b3]) (b0 := ((b3.1.1, b3.1.2), some (b3.1.1, b3.1.2 + 1000000))) S1.W1 (.cons (paired4 hush).2.2.2 (.cons Of .nil)) (fun b hb => ?_) rn4 (Wp.rem_far okZ hv1 (by decide)) rl3 (by show 2 ≤ 500; decide) fun H2 s2' => ⟨cE 8, 8, rfl, rfl, e15 8 (by decide), by decide, fun u1' H3 s3' hu1 => ?_⟩
    · rcases List.mem_append.mp hb with z | z
      · exact ob3 b z
      · rw [List.mem_singleton.mp z]
        exact ⟨hv1, hv2, fun c hc => by cases hc; exact hv1⟩
    refine ⟨(by show 2 ≤ sizeLine; decide), fun z nz => ?_⟩
    have sz := same_upd (o := HO.tup [.str "contradiction", .int 0]) nz
    refine ⟨errD2 8, errD2 8, .tup (SqT.of (sz _ _ hu1)) (.cons (.str _) (.cons (.int _) .nil)), .tup (SqT.of upd_same) (.cons (.str _) (.cons (.int _) .nil)), errD2_shaped 8 (by decide), errD2_shaped 8 (by decide), false, congrArg V.bl (eqv_selfN (errD2_shaped 8 (by decide))), iteF ?_⟩
    have sx := s2'.trans (s3'.trans sz)
    have S2 := S1.same sx
    have hL2 := sx _ _ hL1
    have st2 := st1.same sx
    generalize upd H3 z (.tup [.str "contradiction", .int 0]) = H4 at S2 hL2 st2
    clear S1 hL1 st1 sx sz s2' s3' hu1 nz hFLh hush hih hmh Of
    -- nothing has changed
    obtain ⟨dxb, a1, a2, a3, a4, hib⟩ := S2.W1.ins
    refine ⟨_, rfl, s1, dxb, _, rfl, hib, ?_⟩
    refine use_cands S2.W1 fun Hb1 rb1 vb1 sb1 nb1 hb1 hvb1 => ?_
    refine ⟨_, rfl, s1, dxb, _, rfl, sb1 _ _ hib, ?_⟩
    refine use_hist (S2.W1.same sb1) fun Hb2 rb2 vb2 sb2 nb2 hb2 hvb2 => ⟨(by show 2 ≤ sizeLine; decide), fun p1' np1 => ?_⟩
    have sp1 := same_upd (o := HO.lst [V.ref rb1, V.ref rb2]) np1
    have s03 := sb1.trans (sb2.trans sp1)
    have stn : StA (upd Hb2 p1' (.lst [V.ref rb1, V.ref rb2])) p1' (Z.rem R0 [b0, b1, b2]) [b0, b1, b2] := ⟨rb1, rb2, vb1, vb2, upd_same, (sb2.trans sp1) _ _ hb1, sp1 _ _ hb2, Paired.mapP hvb1 fun _ _ z => z.keep (tk_of (sb2.trans sp1)), Paired.mapP hvb2 fun _ _ z => ObsAt.keep (tk_of sp1) z⟩
    have S3 := S2.same s03
    have hL3 := s03 _ _ hL2
    have st3 := st2.same s03
    generalize upd Hb2 p1' (.lst [V.ref rb1, V.ref rb2]) = H9 at stn S3 hL3 st3
    clear S2 hL2 st2 s03 sp1 np1 hb1 hvb1 nb1 sb1 hb2 hvb2 nb2 sb2 hib
    refine ⟨_, rfl, L, _, 0, _, rfl, rfl, SqL.of hL3, atI_nat (j := 0) rfl, ?_⟩
    refine nil_of ?_
    refine ⟨.ref p1', .ref u0, rfl, Eqv.up (sta_eqv stn st3 (by omega) (by show 3 ≤ 1000; decide)), fun HA sA => ⟨_, rfl, iteF ?_⟩⟩
    have SA := S3.same sA
    clear S3 hL3 st3 stn sA
    -- another number
    refine ⟨fun σ' H' => ∃ v, σ' = [some (.ref a), some (.ref d), some (.int k), some (.ref w0), some tv, y5, some (.ref s2), some (.ref s3), some (.ref L2), some (.ref fd), some (.ref L), some y3, some (.ref l), some (.int b3.1.2), some (.ref fa), some (.int b3.1.1), some (.ref FL), some (.ref x), some odd, some (.ref pa), some (.ref s1), some v, none, none] ∧ KnT H' v ∧ withinB v 0 ((os.length : Int) - 1) = false ∧ S15 C O Z [(Pt, qL)] d pa t x s1 s2 s3 FL [b0, b1, b2, b3] (Z.rem R0 [b0, b1, b2]) [b0, b1, b2] (Z.rem R0 [b0, b1, b2]) [b0, b1, b2] (Z.rem R0 [b0, b1, b2]) [b0, b1, b2] H', ?_, ?_⟩
    · obtain ⟨ts5, ht5, hP5⟩ := id SA.hO
      have lt5 := hP5.length
      rw [Zos] at lt5
      refine ⟨_, _, rfl, rfl, _, rfl, pa, _, 2, .ref t, rfl, rfl, SqT.of SA.pa, atI_nat (j := 2) rfl, t, _, rfl, .inr (SqT.of ht5), (by show 5 ≤ sizeLine; decide), fun l5 nl => ?_⟩
      have s6 := same_upd (o := HO.lst [.int (0 - 1), .int (ts5.length : Nat), .non, .bl true, .str "0"]) nl
      have hl : (upd HA l5 (.lst [.int (0 - 1), .int (ts5.length : Nat), .non, .bl true, .str "0"])) l5 = some (.lst [.int (0 - 1), .int (ts5.length : Nat), .non, .bl true, .str "0"]) := upd_same
      have l5d : l5 ≠ d := by
        obtain ⟨_, _, _, _, _, hd⟩ := id SA.D
        exact (ne_of_none hd nl).symm
      generalize upd HA l5 (.lst [.int (0 - 1), .int (ts5.length : Nat), .non, .bl true, .str "0"]) = H6 at s6 hl
      have J6 := SA.same s6
      refine ⟨_, rfl, d, 5, rfl, J6.D, by decide, by decide, fun H7 r hr7 b7 D7 => ?_⟩
      have J7 := J6.but b7 D7 dZ
      have hl7 := b7 _ _ l5d hl
      match r, hr7 with
      | 0, _ => exact ⟨l5, _, 0, _, rfl, rfl, SqL.of hl7, atI_nat (j := 0) rfl, _, rfl, .int, wZ (by decide), J7⟩
      | 1, _ => exact ⟨l5, _, 1, _, rfl, rfl, SqL.of hl7, atI_nat (j := 1) rfl, _, rfl, .int, wN (by rw [lt5]; omega), J7⟩
      | 2, _ => exact ⟨l5, _, 2, _, rfl, rfl, SqL.of hl7, atI_nat (j := 2) rfl, _, rfl, .non, rfl, J7⟩
      | 3, _ => exact ⟨l5, _, 3, _, rfl, rfl, SqL.of hl7, atI_nat (j := 3) rfl, _, rfl, .bl, rfl, J7⟩
      | 4, _ => exact ⟨l5, _, 4, _, rfl, rfl, SqL.of hl7, atI_nat (j := 4) rfl, _, rfl, .str, rfl, J7⟩
      | r + 5, hz => exact absurd hz (by omega)
    clear SA
    rintro σ H1 ⟨wv, rfl, knw, ww, S1⟩
    refine ⟨S1.T, fun H2 e1 T2 => ?_⟩
    have S2 := S1.extN e1 T2
    have kn2 := knw.keep (ExtN.tk e1)
    clear S1 knw e1 T2
    refine ⟨_, rfl, _, rfl, fun sw dx nsw ndx nex => ?_⟩
    have s0 : Same H2 (upd (upd H2 dx (.own sw)) sw (.ins O dx [])) := same_updN (same_upd ndx) nsw
    refine ⟨sw, x, t, Z.p, Z.h, Z.os, Z.F, wv, rfl, S2.N.same s0, (kn2.keep (tk_of s0)).kn, by rw [Zos]; exact ww, cE 2, 2, rfl, rfl, e15 2 (by decide), by decide, fun u1' H3 s3' hu1 => ?_⟩
    refine ⟨(by show 2 ≤ sizeLine; decide), fun z nz => ?_⟩
    have sz := same_upd (o := HO.tup [.str "number", .int 0]) nz
    refine ⟨errD2 2, errD2 2, .tup (SqT.of (sz _ _ hu1)) (.cons (.str _) (.cons (.int _) .nil)), .tup (SqT.of upd_same) (.cons (.str _) (.cons (.int _) .nil)), errD2_shaped 2 (by decide), errD2_shaped 2 (by decide), ?_⟩
    rw [show PyData.eqv (errD2 2) (errD2 2) = true from PySem.SeqAt.eqv_refl _ (PySem.SeqAt.canLay_of_shaped (errD2_shaped 2 (by decide)))]
    exact qz _
end
set_option maxHeartbeats 0 in
theorem all_mk {l : PySem.W.OpenLaw} {w : World} {K : PySem.W.Frag} {h : Heap} {mg : Str → Option Value} {fa : Addr} (X : K.In h) (G : h.Ns mainGlobals mg) (hfa : mg "law" = some (.ref fa)) (own : LamX.OwnTab K fa h)
    {C_Net : Addr}
    {C_Watcher : Addr}
    {cL PL : Addr} {ecL : Value} {dcL : Option Addr} {vsL : Array Value} {slcL : Array (Option Value)}
    {f1 : Addr} {od1 an1 : Option Addr} {sl1 : Array (Option Value)} {oc1 kV1 dc1 pm1 cd1 ct1 : Value}
    {f2 : Addr} {od2 an2 : Option Addr} {sl2 : Array (Option Value)} {oc2 kV2 dc2 pm2 cd2 ct2 : Value}
    {f3 : Addr} {od3 an3 : Option Addr} {sl3 : Array (Option Value)} {oc3 kV3 dc3 pm3 cd3 ct3 : Value}
    {f4 : Addr} {od4 an4 : Option Addr} {sl4 : Array (Option Value)} {oc4 kV4 dc4 pm4 cd4 ct4 : Value}
    {f5 : Addr} {od5 an5 : Option Addr} {sl5 : Array (Option Value)} {oc5 kV5 dc5 pm5 cd5 ct5 : Value}
    {f6 : Addr} {od6 an6 : Option Addr} {sl6 : Array (Option Value)} {oc6 kV6 dc6 pm6 cd6 ct6 : Value}
    {f7 : Addr} {od7 an7 : Option Addr} {sl7 : Array (Option Value)} {oc7 kV7 dc7 pm7 cd7 ct7 : Value}
    {f8 : Addr} {od8 an8 : Option Addr} {sl8 : Array (Option Value)} {oc8 kV8 dc8 pm8 cd8 ct8 : Value}
    {f9 : Addr} {od9 an9 : Option Addr} {sl9 : Array (Option Value)} {oc9 kV9 dc9 pm9 cd9 ct9 : Value}
    {f10 : Addr} {od10 an10 : Option Addr} {sl10 : Array (Option Value)} {oc10 kV10 dc10 pm10 cd10 ct10 : Value}
    {f11 : Addr} {od11 an11 : Option Addr} {sl11 : Array (Option Value)} {oc11 kV11 dc11 pm11 cd11 ct11 : Value}
    {f12 : Addr} {od12 an12 : Option Addr} {sl12 : Array (Option Value)} {oc12 kV12 dc12 pm12 cd12 ct12 : Value}
    {f13 : Addr} {od13 an13 : Option Addr} {sl13 : Array (Option Value)} {oc13 kV13 dc13 pm13 cd13 ct13 : Value}
    {f14 : Addr} {od14 an14 : Option Addr} {sl14 : Array (Option Value)} {oc14 kV14 dc14 pm14 cd14 ct14 : Value}
    {f15 : Addr} {od15 an15 : Option Addr} {sl15 : Array (Option Value)} {oc15 kV15 dc15 pm15 cd15 ct15 : Value}
    {f16 : Addr} {od16 an16 : Option Addr} {sl16 : Array (Option Value)} {oc16 kV16 dc16 pm16 cd16 ct16 : Value}
    {f17 : Addr} {od17 an17 : Option Addr} {sl17 : Array (Option Value)} {oc17 kV17 dc17 pm17 cd17 ct17 : Value}
    {f18 : Addr} {od18 an18 : Option Addr} {sl18 : Array (Option Value)} {oc18 kV18 dc18 pm18 cd18 ct18 : Value}
    {f19 : Addr} {od19 an19 : Option Addr} {sl19 : Array (Option Value)} {oc19 kV19 dc19 pm19 cd19 ct19 : Value}
    {f20 : Addr} {od20 an20 : Option Addr} {sl20 : Array (Option Value)} {oc20 kV20 dc20 pm20 cd20 ct20 : Value}
    {f21 : Addr} {od21 an21 : Option Addr} {sl21 : Array (Option Value)} {oc21 kV21 dc21 pm21 cd21 ct21 : Value}
    {f22 : Addr} {od22 an22 : Option Addr} {sl22 : Array (Option Value)} {oc22 kV22 dc22 pm22 cd22 ct22 : Value}
    {f23 : Addr} {od23 an23 : Option Addr} {sl23 : Array (Option Value)} {oc23 kV23 dc23 pm23 cd23 ct23 : Value}
    {f24 : Addr} {od24 an24 : Option Addr} {sl24 : Array (Option Value)} {oc24 kV24 dc24 pm24 cd24 ct24 : Value}
    {f25 : Addr} {od25 an25 : Option Addr} {sl25 : Array (Option Value)} {oc25 kV25 dc25 pm25 cd25 ct25 : Value}
    {f26 : Addr} {od26 an26 : Option Addr} {sl26 : Array (Option Value)} {oc26 kV26 dc26 pm26 cd26 ct26 : Value}
    {f27 : Addr} {od27 an27 : Option Addr} {sl27 : Array (Option Value)} {oc27 kV27 dc27 pm27 cd27 ct27 : Value}
    {f28 : Addr} {od28 an28 : Option Addr} {sl28 : Array (Option Value)} {oc28 kV28 dc28 pm28 cd28 ct28 : Value}
    {f29 : Addr} {od29 an29 : Option Addr} {sl29 : Array (Option Value)} {oc29 kV29 dc29 pm29 ct29 : Value}
    {f30 : Addr} {od30 an30 : Option Addr} {sl30 : Array (Option Value)} {oc30 kV30 dc30 pm30 cd30 ct30 : Value}
    {f31 : Addr} {od31 an31 : Option Addr} {sl31 : Array (Option Value)} {oc31 kV31 dc31 pm31 cd31 ct31 : Value}
    {f32 : Addr} {od32 an32 : Option Addr} {sl32 : Array (Option Value)} {oc32 kV32 dc32 pm32 cd32 ct32 : Value}
    {f33 : Addr} {od33 an33 : Option Addr} {sl33 : Array (Option Value)} {oc33 kV33 dc33 pm33 cd33 ct33 : Value}
    {p33 : Addr} {pr33 : List Value}
    {f34 : Addr} {od34 an34 : Option Addr} {sl34 : Array (Option Value)} {oc34 kV34 dc34 pm34 cd34 ct34 : Value}
    {p34 : Addr} {pr34 : List Value}
    {f35 : Addr} {od35 an35 : Option Addr} {sl35 : Array (Option Value)} {oc35 kV35 dc35 pm35 cd35 ct35 : Value}
    {f36 : Addr} {od36 an36 : Option Addr} {sl36 : Array (Option Value)} {oc36 kV36 dc36 pm36 cd36 ct36 : Value}
    {f37 : Addr} {od37 an37 : Option Addr} {sl37 : Array (Option Value)} {oc37 kV37 dc37 pm37 cd37 ct37 : Value}
    {f38 : Addr} {od38 an38 : Option Addr} {sl38 : Array (Option Value)} {oc38 kV38 dc38 pm38 cd38 ct38 : Value}
    {f39 : Addr} {od39 an39 : Option Addr} {sl39 : Array (Option Value)} {oc39 kV39 dc39 pm39 cd39 ct39 : Value}
    {tkLAST_DAY : Tok}
    {tkLONGEST_PERIOD : Tok}
    {tkMOST_HOUSES : Tok}
    {tkMOST_ORDERS : Tok}
    {tkLONGEST_DELAY : Tok}
    {CP E0 E1 E2 E3 E4 E5 E6 E7 E8 E9 E10 E11 E12 E13 E14 : Addr}
    (aCNet : PySem.W.nsIn K mainGlobals "Net" = some (some (.ref C_Net)))
    (aCWatcher : PySem.W.nsIn K mainGlobals "Watcher" = some (some (.ref C_Watcher)))
    (a1 : PySem.W.nsIn K mainGlobals "is_integer" = some (some (.ref f1)))
    (l1 : K.lookup f1 = some ⟨oc1, od1, .func (PySem.W.fnOf "is_integer" "is_integer" (defArgs s_is_integer) (defBody s_is_integer) (defScope s_is_integer) .none kV1 dc1 pm1 an1 cd1 ct1), sl1⟩)
    (c1 : PySem.W.codeIn K cd1 "is_integer" = true)
    (k1 : PySem.W.keepIn K (.ref f1) = true)
    (a2 : PySem.W.nsIn K mainGlobals "is_within" = some (some (.ref f2)))
    (l2 : K.lookup f2 = some ⟨oc2, od2, .func (PySem.W.fnOf "is_within" "is_within" (defArgs s_is_within) (defBody s_is_within) (defScope s_is_within) .none kV2 dc2 pm2 an2 cd2 ct2), sl2⟩)
    (c2 : PySem.W.codeIn K cd2 "is_within" = true)
    (k2 : PySem.W.keepIn K (.ref f2) = true)
    (a3 : PySem.W.nsIn K mainGlobals "is_order" = some (some (.ref f3)))
    (l3 : K.lookup f3 = some ⟨oc3, od3, .func (PySem.W.fnOf "is_order" "is_order" (defArgs s_is_order) (defBody s_is_order) (defScope s_is_order) .none kV3 dc3 pm3 an3 cd3 ct3), sl3⟩)
    (c3 : PySem.W.codeIn K cd3 "is_order" = true)
    (k3 : PySem.W.keepIn K (.ref f3) = true)
    (a4 : PySem.W.nsIn K mainGlobals "check_orders" = some (some (.ref f4)))
    (l4 : K.lookup f4 = some ⟨oc4, od4, .func (PySem.W.fnOf "check_orders" "check_orders" (defArgs s_check_orders) (defBody s_check_orders) (defScope s_check_orders) .none kV4 dc4 pm4 an4 cd4 ct4), sl4⟩)
    (c4 : PySem.W.codeIn K cd4 "check_orders" = true)
    (k4 : PySem.W.keepIn K (.ref f4) = true)
    (a5 : PySem.W.nsIn K mainGlobals "find_followed" = some (some (.ref f5)))
    (l5 : K.lookup f5 = some ⟨oc5, od5, .func (PySem.W.fnOf "find_followed" "find_followed" (defArgs s_find_followed) (defBody s_find_followed) (defScope s_find_followed) .none kV5 dc5 pm5 an5 cd5 ct5), sl5⟩)
    (c5 : PySem.W.codeIn K cd5 "find_followed" = true)
    (k5 : PySem.W.keepIn K (.ref f5) = true)
    (a6 : PySem.W.nsIn K mainGlobals "check_house" = some (some (.ref f6)))
    (l6 : K.lookup f6 = some ⟨oc6, od6, .func (PySem.W.fnOf "check_house" "check_house" (defArgs s_check_house) (defBody s_check_house) (defScope s_check_house) .none kV6 dc6 pm6 an6 cd6 ct6), sl6⟩)
    (c6 : PySem.W.codeIn K cd6 "check_house" = true)
    (k6 : PySem.W.keepIn K (.ref f6) = true)
    (a7 : PySem.W.nsIn K mainGlobals "check_day" = some (some (.ref f7)))
    (l7 : K.lookup f7 = some ⟨oc7, od7, .func (PySem.W.fnOf "check_day" "check_day" (defArgs s_check_day) (defBody s_check_day) (defScope s_check_day) .none kV7 dc7 pm7 an7 cd7 ct7), sl7⟩)
    (c7 : PySem.W.codeIn K cd7 "check_day" = true)
    (k7 : PySem.W.keepIn K (.ref f7) = true)
    (a8 : PySem.W.nsIn K mainGlobals "check_letter" = some (some (.ref f8)))
    (l8 : K.lookup f8 = some ⟨oc8, od8, .func (PySem.W.fnOf "check_letter" "check_letter" (defArgs s_check_letter) (defBody s_check_letter) (defScope s_check_letter) .none kV8 dc8 pm8 an8 cd8 ct8), sl8⟩)
    (c8 : PySem.W.codeIn K cd8 "check_letter" = true)
    (k8 : PySem.W.keepIn K (.ref f8) = true)
    (a9 : PySem.W.nsIn K mainGlobals "_law_random" = some (some (.ref f9)))
    (l9 : K.lookup f9 = some ⟨oc9, od9, .func (PySem.W.fnOf "_law_random" "_law_random" (defArgs s_l_random) (defBody s_l_random) (defScope s_l_random) .none kV9 dc9 pm9 an9 cd9 ct9), sl9⟩)
    (c9 : PySem.W.codeIn K cd9 "_law_random" = true)
    (k9 : PySem.W.keepIn K (.ref f9) = true)
    (a10 : PySem.W.nsIn K mainGlobals "_law_below" = some (some (.ref f10)))
    (l10 : K.lookup f10 = some ⟨oc10, od10, .func (PySem.W.fnOf "_law_below" "_law_below" (defArgs s_l_below) (defBody s_l_below) (defScope s_l_below) .none kV10 dc10 pm10 an10 cd10 ct10), sl10⟩)
    (c10 : PySem.W.codeIn K cd10 "_law_below" = true)
    (k10 : PySem.W.keepIn K (.ref f10) = true)
    (a11 : PySem.W.nsIn K mainGlobals "_law_order" = some (some (.ref f11)))
    (l11 : K.lookup f11 = some ⟨oc11, od11, .func (PySem.W.fnOf "_law_order" "_law_order" (defArgs s_l_order) (defBody s_l_order) (defScope s_l_order) .none kV11 dc11 pm11 an11 cd11 ct11), sl11⟩)
    (c11 : PySem.W.codeIn K cd11 "_law_order" = true)
    (k11 : PySem.W.keepIn K (.ref f11) = true)
    (a12 : PySem.W.nsIn K mainGlobals "_law_small" = some (some (.ref f12)))
    (l12 : K.lookup f12 = some ⟨oc12, od12, .func (PySem.W.fnOf "_law_small" "_law_small" (defArgs s_l_small) (defBody s_l_small) (defScope s_l_small) .none kV12 dc12 pm12 an12 cd12 ct12), sl12⟩)
    (c12 : PySem.W.codeIn K cd12 "_law_small" = true)
    (k12 : PySem.W.keepIn K (.ref f12) = true)
    (a13 : PySem.W.nsIn K mainGlobals "_law_net" = some (some (.ref f13)))
    (l13 : K.lookup f13 = some ⟨oc13, od13, .func (PySem.W.fnOf "_law_net" "_law_net" (defArgs s_l_net) (defBody s_l_net) (defScope s_l_net) .none kV13 dc13 pm13 an13 cd13 ct13), sl13⟩)
    (c13 : PySem.W.codeIn K cd13 "_law_net" = true)
    (k13 : PySem.W.keepIn K (.ref f13) = true)
    (a14 : PySem.W.nsIn K mainGlobals "_law_equal" = some (some (.ref f14)))
    (l14 : K.lookup f14 = some ⟨oc14, od14, .func (PySem.W.fnOf "_law_equal" "_law_equal" (defArgs s_l_equal) (defBody s_l_equal) (defScope s_l_equal) .none kV14 dc14 pm14 an14 cd14 ct14), sl14⟩)
    (c14 : PySem.W.codeIn K cd14 "_law_equal" = true)
    (k14 : PySem.W.keepIn K (.ref f14) = true)
    (a15 : PySem.W.nsIn K mainGlobals "_law_index" = some (some (.ref f15)))
    (l15 : K.lookup f15 = some ⟨oc15, od15, .func (PySem.W.fnOf "_law_index" "_law_index" (defArgs s_l_index) (defBody s_l_index) (defScope s_l_index) .none kV15 dc15 pm15 an15 cd15 ct15), sl15⟩)
    (c15 : PySem.W.codeIn K cd15 "_law_index" = true)
    (k15 : PySem.W.keepIn K (.ref f15) = true)
    (a16 : PySem.W.nsIn K mainGlobals "_law_journey" = some (some (.ref f16)))
    (l16 : K.lookup f16 = some ⟨oc16, od16, .func (PySem.W.fnOf "_law_journey" "_law_journey" (defArgs s_l_journey) (defBody s_l_journey) (defScope s_l_journey) .none kV16 dc16 pm16 an16 cd16 ct16), sl16⟩)
    (c16 : PySem.W.codeIn K cd16 "_law_journey" = true)
    (k16 : PySem.W.keepIn K (.ref f16) = true)
    (a17 : PySem.W.nsIn K mainGlobals "_law_result" = some (some (.ref f17)))
    (l17 : K.lookup f17 = some ⟨oc17, od17, .func (PySem.W.fnOf "_law_result" "_law_result" (defArgs s_l_result) (defBody s_l_result) (defScope s_l_result) .none kV17 dc17 pm17 an17 cd17 ct17), sl17⟩)
    (c17 : PySem.W.codeIn K cd17 "_law_result" = true)
    (k17 : PySem.W.keepIn K (.ref f17) = true)
    (a18 : PySem.W.nsIn K mainGlobals "letters" = some (some (.ref f18)))
    (l18 : K.lookup f18 = some ⟨oc18, od18, .func (PySem.W.fnOf "letters" "letters" (defArgs s_letters) (defBody s_letters) (defScope s_letters) .none kV18 dc18 pm18 an18 cd18 ct18), sl18⟩)
    (c18 : PySem.W.codeIn K cd18 "letters" = true)
    (k18 : PySem.W.keepIn K (.ref f18) = true)
    (a19 : PySem.W.nsIn K mainGlobals "add_ways" = some (some (.ref f19)))
    (l19 : K.lookup f19 = some ⟨oc19, od19, .func (PySem.W.fnOf "add_ways" "add_ways" (defArgs s_add_ways) (defBody s_add_ways) (defScope s_add_ways) .none kV19 dc19 pm19 an19 cd19 ct19), sl19⟩)
    (c19 : PySem.W.codeIn K cd19 "add_ways" = true)
    (k19 : PySem.W.keepIn K (.ref f19) = true)
    (a20 : PySem.W.nsIn K mainGlobals "find_ways" = some (some (.ref f20)))
    (l20 : K.lookup f20 = some ⟨oc20, od20, .func (PySem.W.fnOf "find_ways" "find_ways" (defArgs s_find_ways) (defBody s_find_ways) (defScope s_find_ways) .none kV20 dc20 pm20 an20 cd20 ct20), sl20⟩)
    (c20 : PySem.W.codeIn K cd20 "find_ways" = true)
    (k20 : PySem.W.keepIn K (.ref f20) = true)
    (a21 : PySem.W.nsIn K mainGlobals "result_on" = some (some (.ref f21)))
    (l21 : K.lookup f21 = some ⟨oc21, od21, .func (PySem.W.fnOf "result_on" "result_on" (defArgs s_result_on) (defBody s_result_on) (defScope s_result_on) .none kV21 dc21 pm21 an21 cd21 ct21), sl21⟩)
    (c21 : PySem.W.codeIn K cd21 "result_on" = true)
    (k21 : PySem.W.keepIn K (.ref f21) = true)
    (a22 : PySem.W.nsIn K mainGlobals "check_index" = some (some (.ref f22)))
    (l22 : K.lookup f22 = some ⟨oc22, od22, .func (PySem.W.fnOf "check_index" "check_index" (defArgs s_check_index) (defBody s_check_index) (defScope s_check_index) .none kV22 dc22 pm22 an22 cd22 ct22), sl22⟩)
    (c22 : PySem.W.codeIn K cd22 "check_index" = true)
    (k22 : PySem.W.keepIn K (.ref f22) = true)
    (a23 : PySem.W.nsIn K mainGlobals "with_order" = some (some (.ref f23)))
    (l23 : K.lookup f23 = some ⟨oc23, od23, .func (PySem.W.fnOf "with_order" "with_order" (defArgs s_with_order) (defBody s_with_order) (defScope s_with_order) .none kV23 dc23 pm23 an23 cd23 ct23), sl23⟩)
    (c23 : PySem.W.codeIn K cd23 "with_order" = true)
    (k23 : PySem.W.keepIn K (.ref f23) = true)
    (a24 : PySem.W.nsIn K mainGlobals "find_candidates" = some (some (.ref f24)))
    (l24 : K.lookup f24 = some ⟨oc24, od24, .func (PySem.W.fnOf "find_candidates" "find_candidates" (defArgs s_find_candidates) (defBody s_find_candidates) (defScope s_find_candidates) .none kV24 dc24 pm24 an24 cd24 ct24), sl24⟩)
    (c24 : PySem.W.codeIn K cd24 "find_candidates" = true)
    (k24 : PySem.W.keepIn K (.ref f24) = true)
    (a25 : PySem.W.nsIn K mainGlobals "check_result" = some (some (.ref f25)))
    (l25 : K.lookup f25 = some ⟨oc25, od25, .func (PySem.W.fnOf "check_result" "check_result" (defArgs s_check_result) (defBody s_check_result) (defScope s_check_result) .none kV25 dc25 pm25 an25 cd25 ct25), sl25⟩)
    (c25 : PySem.W.codeIn K cd25 "check_result" = true)
    (k25 : PySem.W.keepIn K (.ref f25) = true)
    (a26 : PySem.W.nsIn K mainGlobals "_law_candidates" = some (some (.ref f26)))
    (l26 : K.lookup f26 = some ⟨oc26, od26, .func (PySem.W.fnOf "_law_candidates" "_law_candidates" (defArgs s_l_candidates) (defBody s_l_candidates) (defScope s_l_candidates) .none kV26 dc26 pm26 an26 cd26 ct26), sl26⟩)
    (c26 : PySem.W.codeIn K cd26 "_law_candidates" = true)
    (k26 : PySem.W.keepIn K (.ref f26) = true)
    (a27 : PySem.W.nsIn K mainGlobals "_law_error_of" = some (some (.ref f27)))
    (l27 : K.lookup f27 = some ⟨oc27, od27, .func (PySem.W.fnOf "_law_error_of" "_law_error_of" (defArgs s_l_error_of) (defBody s_l_error_of) (defScope s_l_error_of) .none kV27 dc27 pm27 an27 cd27 ct27), sl27⟩)
    (c27 : PySem.W.codeIn K cd27 "_law_error_of" = true)
    (k27 : PySem.W.keepIn K (.ref f27) = true)
    (a28 : PySem.W.nsIn K mainGlobals "_law_all_raise" = some (some (.ref f28)))
    (l28 : K.lookup f28 = some ⟨oc28, od28, .func (PySem.W.fnOf "_law_all_raise" "_law_all_raise" (defArgs s_l_all_raise) (defBody s_l_all_raise) (defScope s_l_all_raise) .none kV28 dc28 pm28 an28 cd28 ct28), sl28⟩)
    (c28 : PySem.W.codeIn K cd28 "_law_all_raise" = true)
    (k28 : PySem.W.keepIn K (.ref f28) = true)
    (a29 : PySem.W.nsIn K mainGlobals "law" = some (some (.ref f29)))
    (l29 : K.lookup f29 = some ⟨oc29, od29, .func (PySem.W.fnOf "law" "law" (defArgs s_law) (defBody s_law) (defScope s_law) .none kV29 dc29 pm29 an29 (.ref cL) ct29), sl29⟩)
    (c29 : PySem.W.codeIn K (.ref cL) "law" = true)
    (k29 : PySem.W.keepIn K (.ref f29) = true)
    (a30 : PySem.W.findIn K (.ref C_Net) "__init__" = some (some (.ref f30)))
    (i30 : PySem.W.isFn K (.ref f30) = true)
    (l30 : K.lookup f30 = some ⟨oc30, od30, .func (PySem.W.fnOf "__init__" "Net.__init__" (defArgs s_Net_init) (defBody s_Net_init) (defScope s_Net_init) .none kV30 dc30 pm30 an30 cd30 ct30), sl30⟩)
    (c30 : PySem.W.codeIn K cd30 "Net.__init__" = true)
    (k30 : PySem.W.keepIn K (.ref f30) = true)
    (a31 : PySem.W.findIn K (.ref C_Net) "stop_after" = some (some (.ref f31)))
    (i31 : PySem.W.isFn K (.ref f31) = true)
    (l31 : K.lookup f31 = some ⟨oc31, od31, .func (PySem.W.fnOf "stop_after" "Net.stop_after" (defArgs s_Net_stop_after) (defBody s_Net_stop_after) (defScope s_Net_stop_after) .none kV31 dc31 pm31 an31 cd31 ct31), sl31⟩)
    (c31 : PySem.W.codeIn K cd31 "Net.stop_after" = true)
    (k31 : PySem.W.keepIn K (.ref f31) = true)
    (a32 : PySem.W.findIn K (.ref C_Watcher) "__init__" = some (some (.ref f32)))
    (i32 : PySem.W.isFn K (.ref f32) = true)
    (l32 : K.lookup f32 = some ⟨oc32, od32, .func (PySem.W.fnOf "__init__" "Watcher.__init__" (defArgs s_Watcher_init) (defBody s_Watcher_init) (defScope s_Watcher_init) .none kV32 dc32 pm32 an32 cd32 ct32), sl32⟩)
    (c32 : PySem.W.codeIn K cd32 "Watcher.__init__" = true)
    (k32 : PySem.W.keepIn K (.ref f32) = true)
    (a33 : PySem.W.findIn K (.ref C_Watcher) "candidates" = some (some (.ref p33)))
    (pg33 : PySem.W.specialIn K (.ref p33) "__get__" = some (some (.builtin "property.__get__")))
    (pt33 : PySem.W.takesIn K (.ref p33) = some true)
    (pc33 : PySem.W.recIn K p33 "property" = some (.ref f33 :: pr33))
    (l33 : K.lookup f33 = some ⟨oc33, od33, .func (PySem.W.fnOf "candidates" "Watcher.candidates" (defArgs s_Watcher_candidates) (defBody s_Watcher_candidates) (defScope s_Watcher_candidates) .none kV33 dc33 pm33 an33 cd33 ct33), sl33⟩)
    (c33 : PySem.W.codeIn K cd33 "Watcher.candidates" = true)
    (k33 : PySem.W.keepIn K (.ref f33) = true)
    (a34 : PySem.W.findIn K (.ref C_Watcher) "history" = some (some (.ref p34)))
    (pg34 : PySem.W.specialIn K (.ref p34) "__get__" = some (some (.builtin "property.__get__")))
    (pt34 : PySem.W.takesIn K (.ref p34) = some true)
    (pc34 : PySem.W.recIn K p34 "property" = some (.ref f34 :: pr34))
    (l34 : K.lookup f34 = some ⟨oc34, od34, .func (PySem.W.fnOf "history" "Watcher.history" (defArgs s_Watcher_history) (defBody s_Watcher_history) (defScope s_Watcher_history) .none kV34 dc34 pm34 an34 cd34 ct34), sl34⟩)
    (c34 : PySem.W.codeIn K cd34 "Watcher.history" = true)
    (k34 : PySem.W.keepIn K (.ref f34) = true)
    (a35 : PySem.W.findIn K (.ref C_Watcher) "result_with" = some (some (.ref f35)))
    (i35 : PySem.W.isFn K (.ref f35) = true)
    (l35 : K.lookup f35 = some ⟨oc35, od35, .func (PySem.W.fnOf "result_with" "Watcher.result_with" (defArgs s_Watcher_result_with) (defBody s_Watcher_result_with) (defScope s_Watcher_result_with) .none kV35 dc35 pm35 an35 cd35 ct35), sl35⟩)
    (c35 : PySem.W.codeIn K cd35 "Watcher.result_with" = true)
    (k35 : PySem.W.keepIn K (.ref f35) = true)
    (a36 : PySem.W.findIn K (.ref C_Watcher) "count_results" = some (some (.ref f36)))
    (i36 : PySem.W.isFn K (.ref f36) = true)
    (l36 : K.lookup f36 = some ⟨oc36, od36, .func (PySem.W.fnOf "count_results" "Watcher.count_results" (defArgs s_Watcher_count_results) (defBody s_Watcher_count_results) (defScope s_Watcher_count_results) .none kV36 dc36 pm36 an36 cd36 ct36), sl36⟩)
    (c36 : PySem.W.codeIn K cd36 "Watcher.count_results" = true)
    (k36 : PySem.W.keepIn K (.ref f36) = true)
    (a37 : PySem.W.findIn K (.ref C_Watcher) "results" = some (some (.ref f37)))
    (i37 : PySem.W.isFn K (.ref f37) = true)
    (l37 : K.lookup f37 = some ⟨oc37, od37, .func (PySem.W.fnOf "results" "Watcher.results" (defArgs s_Watcher_results) (defBody s_Watcher_results) (defScope s_Watcher_results) .none kV37 dc37 pm37 an37 cd37 ct37), sl37⟩)
    (c37 : PySem.W.codeIn K cd37 "Watcher.results" = true)
    (k37 : PySem.W.keepIn K (.ref f37) = true)
    (a38 : PySem.W.findIn K (.ref C_Watcher) "see_all" = some (some (.ref f38)))
    (i38 : PySem.W.isFn K (.ref f38) = true)
    (l38 : K.lookup f38 = some ⟨oc38, od38, .func (PySem.W.fnOf "see_all" "Watcher.see_all" (defArgs s_Watcher_see_all) (defBody s_Watcher_see_all) (defScope s_Watcher_see_all) .none kV38 dc38 pm38 an38 cd38 ct38), sl38⟩)
    (c38 : PySem.W.codeIn K cd38 "Watcher.see_all" = true)
    (k38 : PySem.W.keepIn K (.ref f38) = true)
    (a39 : PySem.W.findIn K (.ref C_Watcher) "see" = some (some (.ref f39)))
    (i39 : PySem.W.isFn K (.ref f39) = true)
    (l39 : K.lookup f39 = some ⟨oc39, od39, .func (PySem.W.fnOf "see" "Watcher.see" (defArgs s_Watcher_see) (defBody s_Watcher_see) (defScope s_Watcher_see) .none kV39 dc39 pm39 an39 cd39 ct39), sl39⟩)
    (c39 : PySem.W.codeIn K cd39 "Watcher.see" = true)
    (k39 : PySem.W.keepIn K (.ref f39) = true)
    (pgNet : PySem.W.plainGet K C_Net Str.empty = true)
    (hdNet : PySem.W.hasDictIn K C_Net = true)
    (poNet : PySem.W.plainOver K C_Net = true)
    (saNet : PySem.W.findIn K (.ref C_Net) "__setattr__" = some (some (.builtin "object.__setattr__")))
    (mkNet : PySem.W.makesIn K C_Net = true)
    (kcNet : PySem.W.keepIn K (.ref C_Net) = true)
    (nNet_period : PySem.W.findIn K (.ref C_Net) "period" = some none)
    (nNet_houses : PySem.W.findIn K (.ref C_Net) "houses" = some none)
    (nNet_orders : PySem.W.findIn K (.ref C_Net) "orders" = some none)
    (nNet_followed : PySem.W.findIn K (.ref C_Net) "followed" = some none)
    (pgWatcher : PySem.W.plainGet K C_Watcher Str.empty = true)
    (hdWatcher : PySem.W.hasDictIn K C_Watcher = true)
    (poWatcher : PySem.W.plainOver K C_Watcher = true)
    (saWatcher : PySem.W.findIn K (.ref C_Watcher) "__setattr__" = some (some (.builtin "object.__setattr__")))
    (mkWatcher : PySem.W.makesIn K C_Watcher = true)
    (kcWatcher : PySem.W.keepIn K (.ref C_Watcher) = true)
    (nWatcher_net : PySem.W.findIn K (.ref C_Watcher) "net" = some none)
    (nWatcher_ways : PySem.W.findIn K (.ref C_Watcher) "ways" = some none)
    (nWatcher_remaining : PySem.W.findIn K (.ref C_Watcher) "remaining" = some none)
    (nWatcher_accepted : PySem.W.findIn K (.ref C_Watcher) "accepted" = some none)
    (vLAST_DAY : PySem.W.nsIn K mainGlobals "LAST_DAY" = some (some (.int 1000000000000000000 tkLAST_DAY)))
    (vLONGEST_PERIOD : PySem.W.nsIn K mainGlobals "LONGEST_PERIOD" = some (some (.int 30 tkLONGEST_PERIOD)))
    (vMOST_HOUSES : PySem.W.nsIn K mainGlobals "MOST_HOUSES" = some (some (.int 10 tkMOST_HOUSES)))
    (vMOST_ORDERS : PySem.W.nsIn K mainGlobals "MOST_ORDERS" = some (some (.int 20 tkMOST_ORDERS)))
    (vLONGEST_DELAY : PySem.W.nsIn K mainGlobals "LONGEST_DELAY" = some (some (.int 9 tkLONGEST_DELAY)))
    (zlen : PySem.W.nsIn K mainGlobals "len" = some none)
    (zrange : PySem.W.nsIn K mainGlobals "range" = some none)
    (zisinstance : PySem.W.nsIn K mainGlobals "isinstance" = some none)
    (zint : PySem.W.nsIn K mainGlobals "int" = some none)
    (zbool : PySem.W.nsIn K mainGlobals "bool" = some none)
    (zstr : PySem.W.nsIn K mainGlobals "str" = some none)
    (ztuple : PySem.W.nsIn K mainGlobals "tuple" = some none)
    (zlist : PySem.W.nsIn K mainGlobals "list" = some none)
    (zall : PySem.W.nsIn K mainGlobals "all" = some none)
    (zabs : PySem.W.nsIn K mainGlobals "abs" = some none)
    (zenumerate : PySem.W.nsIn K mainGlobals "enumerate" = some none)
    (zsorted : PySem.W.nsIn K mainGlobals "sorted" = some none)
    (tl : K.lookup cL = some ⟨ecL, dcL, .fields vsL, slcL⟩)
    (t11 : vsL[11]? = some (.ref PL))
    (tP : K.lookup PL = none)
    (th : PySem.W.codeHdIn K cL PL = true)
    (gEP : PySem.W.nsIn K mainGlobals "PostError" = some (some (.ref CP)))
    (iEP : PySem.W.isClsIn K CP = true)
    (tEP : PySem.W.typeIn K (.ref CP) = some (.type "type"))
    (bEP : PySem.W.subIn K (.ref CP) (.type "BaseException") = some true)
    (zVE : PySem.W.nsIn K mainGlobals "ValueError" = some none)
    (gE0 : PySem.W.nsIn K mainGlobals "InvalidDay" = some (some (.ref E0)))
    (iE0 : PySem.W.isClsIn K E0 = true)
    (tE0 : PySem.W.typeIn K (.ref E0) = some (.type "type"))
    (gE1 : PySem.W.nsIn K mainGlobals "UnknownHouse" = some (some (.ref E1)))
    (iE1 : PySem.W.isClsIn K E1 = true)
    (tE1 : PySem.W.typeIn K (.ref E1) = some (.type "type"))
    (gE2 : PySem.W.nsIn K mainGlobals "UnknownOrder" = some (some (.ref E2)))
    (iE2 : PySem.W.isClsIn K E2 = true)
    (tE2 : PySem.W.typeIn K (.ref E2) = some (.type "type"))
    (gE3 : PySem.W.nsIn K mainGlobals "InvalidLimit" = some (some (.ref E3)))
    (iE3 : PySem.W.isClsIn K E3 = true)
    (tE3 : PySem.W.typeIn K (.ref E3) = some (.type "type"))
    (gE4 : PySem.W.nsIn K mainGlobals "InvalidOrder" = some (some (.ref E4)))
    (iE4 : PySem.W.isClsIn K E4 = true)
    (tE4 : PySem.W.typeIn K (.ref E4) = some (.type "type"))
    (gE5 : PySem.W.nsIn K mainGlobals "TooManyOrders" = some (some (.ref E5)))
    (iE5 : PySem.W.isClsIn K E5 = true)
    (tE5 : PySem.W.typeIn K (.ref E5) = some (.type "type"))
    (gE6 : PySem.W.nsIn K mainGlobals "TooLong" = some (some (.ref E6)))
    (iE6 : PySem.W.isClsIn K E6 = true)
    (tE6 : PySem.W.typeIn K (.ref E6) = some (.type "type"))
    (gE7 : PySem.W.nsIn K mainGlobals "InvalidResult" = some (some (.ref E7)))
    (iE7 : PySem.W.isClsIn K E7 = true)
    (tE7 : PySem.W.typeIn K (.ref E7) = some (.type "type"))
    (gE8 : PySem.W.nsIn K mainGlobals "Contradiction" = some (some (.ref E8)))
    (iE8 : PySem.W.isClsIn K E8 = true)
    (tE8 : PySem.W.typeIn K (.ref E8) = some (.type "type"))
    (gE9 : PySem.W.nsIn K mainGlobals "InvalidName" = some (some (.ref E9)))
    (iE9 : PySem.W.isClsIn K E9 = true)
    (tE9 : PySem.W.typeIn K (.ref E9) = some (.type "type"))
    (gE10 : PySem.W.nsIn K mainGlobals "UnknownName" = some (some (.ref E10)))
    (iE10 : PySem.W.isClsIn K E10 = true)
    (tE10 : PySem.W.typeIn K (.ref E10) = some (.type "type"))
    (gE11 : PySem.W.nsIn K mainGlobals "InvalidNet" = some (some (.ref E11)))
    (iE11 : PySem.W.isClsIn K E11 = true)
    (tE11 : PySem.W.typeIn K (.ref E11) = some (.type "type"))
    (gE12 : PySem.W.nsIn K mainGlobals "TextFault" = some (some (.ref E12)))
    (iE12 : PySem.W.isClsIn K E12 = true)
    (tE12 : PySem.W.typeIn K (.ref E12) = some (.type "type"))
    (gE13 : PySem.W.nsIn K mainGlobals "InvalidCode" = some (some (.ref E13)))
    (iE13 : PySem.W.isClsIn K E13 = true)
    (tE13 : PySem.W.typeIn K (.ref E13) = some (.type "type"))
    (gE14 : PySem.W.nsIn K mainGlobals "InvalidOperation" = some (some (.ref E14)))
    (iE14 : PySem.W.isClsIn K E14 = true)
    (tE14 : PySem.W.typeIn K (.ref E14) = some (.type "type"))
    (heN : PySem.W.specialIn K (.builtin "object.__class__") "__get__" = some (some (.builtin "getset_descriptor.__get__")))
    (heT : PySem.W.takesIn K (.builtin "object.__class__") = some true)
    (sE0_0 : PySem.W.subIn K (.ref E0) (.ref E0) = some true)
    (sE0_1 : PySem.W.subIn K (.ref E0) (.ref E1) = some false)
    (sE0_2 : PySem.W.subIn K (.ref E0) (.ref E2) = some false)
    (sE0_3 : PySem.W.subIn K (.ref E0) (.ref E3) = some false)
    (sE0_4 : PySem.W.subIn K (.ref E0) (.ref E4) = some false)
    (sE0_5 : PySem.W.subIn K (.ref E0) (.ref E5) = some false)
    (sE0_6 : PySem.W.subIn K (.ref E0) (.ref E6) = some false)
    (sE0_7 : PySem.W.subIn K (.ref E0) (.ref E7) = some false)
    (sE0_8 : PySem.W.subIn K (.ref E0) (.ref E8) = some false)
    (sE0_9 : PySem.W.subIn K (.ref E0) (.ref E9) = some false)
    (sE0_10 : PySem.W.subIn K (.ref E0) (.ref E10) = some false)
    (sE0_11 : PySem.W.subIn K (.ref E0) (.ref E11) = some false)
    (sE0_12 : PySem.W.subIn K (.ref E0) (.ref E12) = some false)
    (sE0_13 : PySem.W.subIn K (.ref E0) (.ref E13) = some false)
    (sE0_14 : PySem.W.subIn K (.ref E0) (.ref E14) = some false)
    (sE0_P : PySem.W.subIn K (.ref E0) (.ref CP) = some true)
    (bE0 : PySem.W.subIn K (.ref E0) (.type "BaseException") = some true)
    (vE0 : PySem.W.subIn K (.ref E0) (.type "ValueError") = some true)
    (kE0 : PySem.W.keepIn K (.ref E0) = true)
    (h1E0 : PySem.W.findIn K (.ref E0) "__getattribute__" = some (some (.builtin "BaseException.__getattribute__")))
    (h2E0 : PySem.W.findIn K (.ref E0) "__getattr__" = some none)
    (h3E0 : PySem.W.hasDictIn K E0 = true)
    (h4E0 : PySem.W.findIn K (.ref E0) "__class__" = some (some (.builtin "object.__class__")))
    (h5E0 : PySem.W.mroIn K E0 (.type "object") = some true)
    (xE0 : PySem.W.excIn K E0 [.type "ValueError", .type "Exception", .type "BaseException", .type "object"] "ValueError.__new__" = true)
    (sE1_0 : PySem.W.subIn K (.ref E1) (.ref E0) = some false)
    (sE1_1 : PySem.W.subIn K (.ref E1) (.ref E1) = some true)
    (sE1_2 : PySem.W.subIn K (.ref E1) (.ref E2) = some false)
    (sE1_3 : PySem.W.subIn K (.ref E1) (.ref E3) = some false)
    (sE1_4 : PySem.W.subIn K (.ref E1) (.ref E4) = some false)
    (sE1_5 : PySem.W.subIn K (.ref E1) (.ref E5) = some false)
    (sE1_6 : PySem.W.subIn K (.ref E1) (.ref E6) = some false)
    (sE1_7 : PySem.W.subIn K (.ref E1) (.ref E7) = some false)
    (sE1_8 : PySem.W.subIn K (.ref E1) (.ref E8) = some false)
    (sE1_9 : PySem.W.subIn K (.ref E1) (.ref E9) = some false)
    (sE1_10 : PySem.W.subIn K (.ref E1) (.ref E10) = some false)
    (sE1_11 : PySem.W.subIn K (.ref E1) (.ref E11) = some false)
    (sE1_12 : PySem.W.subIn K (.ref E1) (.ref E12) = some false)
    (sE1_13 : PySem.W.subIn K (.ref E1) (.ref E13) = some false)
    (sE1_14 : PySem.W.subIn K (.ref E1) (.ref E14) = some false)
    (sE1_P : PySem.W.subIn K (.ref E1) (.ref CP) = some true)
    (bE1 : PySem.W.subIn K (.ref E1) (.type "BaseException") = some true)
    (vE1 : PySem.W.subIn K (.ref E1) (.type "ValueError") = some true)
    (kE1 : PySem.W.keepIn K (.ref E1) = true)
    (h1E1 : PySem.W.findIn K (.ref E1) "__getattribute__" = some (some (.builtin "BaseException.__getattribute__")))
    (h2E1 : PySem.W.findIn K (.ref E1) "__getattr__" = some none)
    (h3E1 : PySem.W.hasDictIn K E1 = true)
    (h4E1 : PySem.W.findIn K (.ref E1) "__class__" = some (some (.builtin "object.__class__")))
    (h5E1 : PySem.W.mroIn K E1 (.type "object") = some true)
    (xE1 : PySem.W.excIn K E1 [.type "ValueError", .type "Exception", .type "BaseException", .type "object"] "ValueError.__new__" = true)
    (sE2_0 : PySem.W.subIn K (.ref E2) (.ref E0) = some false)
    (sE2_1 : PySem.W.subIn K (.ref E2) (.ref E1) = some false)
    (sE2_2 : PySem.W.subIn K (.ref E2) (.ref E2) = some true)
    (sE2_3 : PySem.W.subIn K (.ref E2) (.ref E3) = some false)
    (sE2_4 : PySem.W.subIn K (.ref E2) (.ref E4) = some false)
    (sE2_5 : PySem.W.subIn K (.ref E2) (.ref E5) = some false)
    (sE2_6 : PySem.W.subIn K (.ref E2) (.ref E6) = some false)
    (sE2_7 : PySem.W.subIn K (.ref E2) (.ref E7) = some false)
    (sE2_8 : PySem.W.subIn K (.ref E2) (.ref E8) = some false)
    (sE2_9 : PySem.W.subIn K (.ref E2) (.ref E9) = some false)
    (sE2_10 : PySem.W.subIn K (.ref E2) (.ref E10) = some false)
    (sE2_11 : PySem.W.subIn K (.ref E2) (.ref E11) = some false)
    (sE2_12 : PySem.W.subIn K (.ref E2) (.ref E12) = some false)
    (sE2_13 : PySem.W.subIn K (.ref E2) (.ref E13) = some false)
    (sE2_14 : PySem.W.subIn K (.ref E2) (.ref E14) = some false)
    (sE2_P : PySem.W.subIn K (.ref E2) (.ref CP) = some true)
    (bE2 : PySem.W.subIn K (.ref E2) (.type "BaseException") = some true)
    (vE2 : PySem.W.subIn K (.ref E2) (.type "ValueError") = some true)
    (kE2 : PySem.W.keepIn K (.ref E2) = true)
    (h1E2 : PySem.W.findIn K (.ref E2) "__getattribute__" = some (some (.builtin "BaseException.__getattribute__")))
    (h2E2 : PySem.W.findIn K (.ref E2) "__getattr__" = some none)
    (h3E2 : PySem.W.hasDictIn K E2 = true)
    (h4E2 : PySem.W.findIn K (.ref E2) "__class__" = some (some (.builtin "object.__class__")))
    (h5E2 : PySem.W.mroIn K E2 (.type "object") = some true)
    (xE2 : PySem.W.excIn K E2 [.type "ValueError", .type "Exception", .type "BaseException", .type "object"] "ValueError.__new__" = true)
    (sE7_0 : PySem.W.subIn K (.ref E7) (.ref E0) = some false)
    (sE7_1 : PySem.W.subIn K (.ref E7) (.ref E1) = some false)
    (sE7_2 : PySem.W.subIn K (.ref E7) (.ref E2) = some false)
    (sE7_3 : PySem.W.subIn K (.ref E7) (.ref E3) = some false)
    (sE7_4 : PySem.W.subIn K (.ref E7) (.ref E4) = some false)
    (sE7_5 : PySem.W.subIn K (.ref E7) (.ref E5) = some false)
    (sE7_6 : PySem.W.subIn K (.ref E7) (.ref E6) = some false)
    (sE7_7 : PySem.W.subIn K (.ref E7) (.ref E7) = some true)
    (sE7_8 : PySem.W.subIn K (.ref E7) (.ref E8) = some false)
    (sE7_9 : PySem.W.subIn K (.ref E7) (.ref E9) = some false)
    (sE7_10 : PySem.W.subIn K (.ref E7) (.ref E10) = some false)
    (sE7_11 : PySem.W.subIn K (.ref E7) (.ref E11) = some false)
    (sE7_12 : PySem.W.subIn K (.ref E7) (.ref E12) = some false)
    (sE7_13 : PySem.W.subIn K (.ref E7) (.ref E13) = some false)
    (sE7_14 : PySem.W.subIn K (.ref E7) (.ref E14) = some false)
    (sE7_P : PySem.W.subIn K (.ref E7) (.ref CP) = some true)
    (bE7 : PySem.W.subIn K (.ref E7) (.type "BaseException") = some true)
    (vE7 : PySem.W.subIn K (.ref E7) (.type "ValueError") = some true)
    (kE7 : PySem.W.keepIn K (.ref E7) = true)
    (h1E7 : PySem.W.findIn K (.ref E7) "__getattribute__" = some (some (.builtin "BaseException.__getattribute__")))
    (h2E7 : PySem.W.findIn K (.ref E7) "__getattr__" = some none)
    (h3E7 : PySem.W.hasDictIn K E7 = true)
    (h4E7 : PySem.W.findIn K (.ref E7) "__class__" = some (some (.builtin "object.__class__")))
    (h5E7 : PySem.W.mroIn K E7 (.type "object") = some true)
    (xE7 : PySem.W.excIn K E7 [.type "ValueError", .type "Exception", .type "BaseException", .type "object"] "ValueError.__new__" = true)
    (sE8_0 : PySem.W.subIn K (.ref E8) (.ref E0) = some false)
    (sE8_1 : PySem.W.subIn K (.ref E8) (.ref E1) = some false)
    (sE8_2 : PySem.W.subIn K (.ref E8) (.ref E2) = some false)
    (sE8_3 : PySem.W.subIn K (.ref E8) (.ref E3) = some false)
    (sE8_4 : PySem.W.subIn K (.ref E8) (.ref E4) = some false)
    (sE8_5 : PySem.W.subIn K (.ref E8) (.ref E5) = some false)
    (sE8_6 : PySem.W.subIn K (.ref E8) (.ref E6) = some false)
    (sE8_7 : PySem.W.subIn K (.ref E8) (.ref E7) = some false)
    (sE8_8 : PySem.W.subIn K (.ref E8) (.ref E8) = some true)
    (sE8_9 : PySem.W.subIn K (.ref E8) (.ref E9) = some false)
    (sE8_10 : PySem.W.subIn K (.ref E8) (.ref E10) = some false)
    (sE8_11 : PySem.W.subIn K (.ref E8) (.ref E11) = some false)
    (sE8_12 : PySem.W.subIn K (.ref E8) (.ref E12) = some false)
    (sE8_13 : PySem.W.subIn K (.ref E8) (.ref E13) = some false)
    (sE8_14 : PySem.W.subIn K (.ref E8) (.ref E14) = some false)
    (sE8_P : PySem.W.subIn K (.ref E8) (.ref CP) = some true)
    (bE8 : PySem.W.subIn K (.ref E8) (.type "BaseException") = some true)
    (vE8 : PySem.W.subIn K (.ref E8) (.type "ValueError") = some true)
    (kE8 : PySem.W.keepIn K (.ref E8) = true)
    (h1E8 : PySem.W.findIn K (.ref E8) "__getattribute__" = some (some (.builtin "BaseException.__getattribute__")))
    (h2E8 : PySem.W.findIn K (.ref E8) "__getattr__" = some none)
    (h3E8 : PySem.W.hasDictIn K E8 = true)
    (h4E8 : PySem.W.findIn K (.ref E8) "__class__" = some (some (.builtin "object.__class__")))
    (h5E8 : PySem.W.mroIn K E8 (.type "object") = some true)
    (xE8 : PySem.W.excIn K E8 [.type "ValueError", .type "Exception", .type "BaseException", .type "object"] "ValueError.__new__" = true)
    : LamX.LawAtS l w K CX0 11 63 "_law_script" mg fa h := by
  have e := hfa.symm.trans (PySem.W.mg_of X G a29)
  cases e
  have G_Net := PySem.W.mg_of X G aCNet
  have T_Net : NetT K C_Net := ⟨⟨pgNet, hdNet, poNet, saNet⟩, nNet_period, nNet_houses, nNet_orders, nNet_followed⟩
  have G_Watcher := PySem.W.mg_of X G aCWatcher
  have T_Watcher : WatT K C_Watcher := ⟨⟨pgWatcher, hdWatcher, poWatcher, saWatcher⟩, nWatcher_net, nWatcher_ways, nWatcher_remaining, nWatcher_accepted⟩
  have K_LAST_DAY : ∃ t, mg "LAST_DAY" = some (.int 1000000000000000000 t) := ⟨_, PySem.W.mg_of X G vLAST_DAY⟩
  have K_LONGEST_PERIOD : ∃ t, mg "LONGEST_PERIOD" = some (.int 30 t) := ⟨_, PySem.W.mg_of X G vLONGEST_PERIOD⟩
  have K_MOST_HOUSES : ∃ t, mg "MOST_HOUSES" = some (.int 10 t) := ⟨_, PySem.W.mg_of X G vMOST_HOUSES⟩
  have K_MOST_ORDERS : ∃ t, mg "MOST_ORDERS" = some (.int 20 t) := ⟨_, PySem.W.mg_of X G vMOST_ORDERS⟩
  have K_LONGEST_DELAY : ∃ t, mg "LONGEST_DELAY" = some (.int 9 t) := ⟨_, PySem.W.mg_of X G vLONGEST_DELAY⟩
  have B : Blt mg := ⟨PySem.W.mg_none_of X G zlen, PySem.W.mg_none_of X G zrange, PySem.W.mg_none_of X G zisinstance, PySem.W.mg_none_of X G zint, PySem.W.mg_none_of X G zbool, PySem.W.mg_none_of X G zstr, PySem.W.mg_none_of X G ztuple, PySem.W.mg_none_of X G zlist, PySem.W.mg_none_of X G zall, PySem.W.mg_none_of X G zabs, PySem.W.mg_none_of X G zenumerate⟩
  have Z_sorted : mg "sorted" = none := PySem.W.mg_none_of X G zsorted
  let cE : Nat → Addr := fun j => ([E0, E1, E2, E3, E4, E5, E6, E7, E8, E9, E10, E11, E12, E13, E14] : List Addr).getD j 0
  have ME : ErrM mg CP cE := ⟨PySem.W.mg_of X G gEP, PySem.W.mg_of X G gE0, PySem.W.mg_of X G gE1, PySem.W.mg_of X G gE2, PySem.W.mg_of X G gE3, PySem.W.mg_of X G gE4, PySem.W.mg_of X G gE5, PySem.W.mg_of X G gE6, PySem.W.mg_of X G gE7, PySem.W.mg_of X G gE8, PySem.W.mg_of X G gE9, PySem.W.mg_of X G gE10, PySem.W.mg_of X G gE11, PySem.W.mg_of X G gE12, PySem.W.mg_of X G gE13, PySem.W.mg_of X G gE14, PySem.W.mg_none_of X G zVE⟩
  have X_InvalidDay : Err15 K CP cE E0 0 := err15_mk (by decide) ⟨h1E0, h2E0, bE0, h3E0, h4E0, heN, heT, h5E0⟩ (exm_mk bEP iEP tEP sE0_P) vE0 rfl fun j hj => match j, hj with
    | 0, _ => ⟨iE0, tE0, sE0_0⟩
    | 1, _ => ⟨iE1, tE1, sE0_1⟩
    | 2, _ => ⟨iE2, tE2, sE0_2⟩
    | 3, _ => ⟨iE3, tE3, sE0_3⟩
    | 4, _ => ⟨iE4, tE4, sE0_4⟩
    | 5, _ => ⟨iE5, tE5, sE0_5⟩
    | 6, _ => ⟨iE6, tE6, sE0_6⟩
    | 7, _ => ⟨iE7, tE7, sE0_7⟩
    | 8, _ => ⟨iE8, tE8, sE0_8⟩
    | 9, _ => ⟨iE9, tE9, sE0_9⟩
    | 10, _ => ⟨iE10, tE10, sE0_10⟩
    | 11, _ => ⟨iE11, tE11, sE0_11⟩
    | 12, _ => ⟨iE12, tE12, sE0_12⟩
    | 13, _ => ⟨iE13, tE13, sE0_13⟩
    | 14, _ => ⟨iE14, tE14, sE0_14⟩
    | j + 15, h => absurd h (by omega)
  have R_InvalidDay : ErrR K mg "InvalidDay" E0 := ⟨PySem.W.mg_of X G gE0, xE0, kE0, bE0, tE0⟩
  have X_UnknownHouse : Err15 K CP cE E1 1 := err15_mk (by decide) ⟨h1E1, h2E1, bE1, h3E1, h4E1, heN, heT, h5E1⟩ (exm_mk bEP iEP tEP sE1_P) vE1 rfl fun j hj => match j, hj with
    | 0, _ => ⟨iE0, tE0, sE1_0⟩
    | 1, _ => ⟨iE1, tE1, sE1_1⟩
    | 2, _ => ⟨iE2, tE2, sE1_2⟩
    | 3, _ => ⟨iE3, tE3, sE1_3⟩
    | 4, _ => ⟨iE4, tE4, sE1_4⟩
    | 5, _ => ⟨iE5, tE5, sE1_5⟩
    | 6, _ => ⟨iE6, tE6, sE1_6⟩
    | 7, _ => ⟨iE7, tE7, sE1_7⟩
    | 8, _ => ⟨iE8, tE8, sE1_8⟩
    | 9, _ => ⟨iE9, tE9, sE1_9⟩
    | 10, _ => ⟨iE10, tE10, sE1_10⟩
    | 11, _ => ⟨iE11, tE11, sE1_11⟩
    | 12, _ => ⟨iE12, tE12, sE1_12⟩
    | 13, _ => ⟨iE13, tE13, sE1_13⟩
    | 14, _ => ⟨iE14, tE14, sE1_14⟩
    | j + 15, h => absurd h (by omega)
  have R_UnknownHouse : ErrR K mg "UnknownHouse" E1 := ⟨PySem.W.mg_of X G gE1, xE1, kE1, bE1, tE1⟩
  have X_UnknownOrder : Err15 K CP cE E2 2 := err15_mk (by decide) ⟨h1E2, h2E2, bE2, h3E2, h4E2, heN, heT, h5E2⟩ (exm_mk bEP iEP tEP sE2_P) vE2 rfl fun j hj => match j, hj with
    | 0, _ => ⟨iE0, tE0, sE2_0⟩
    | 1, _ => ⟨iE1, tE1, sE2_1⟩
    | 2, _ => ⟨iE2, tE2, sE2_2⟩
    | 3, _ => ⟨iE3, tE3, sE2_3⟩
    | 4, _ => ⟨iE4, tE4, sE2_4⟩
    | 5, _ => ⟨iE5, tE5, sE2_5⟩
    | 6, _ => ⟨iE6, tE6, sE2_6⟩
    | 7, _ => ⟨iE7, tE7, sE2_7⟩
    | 8, _ => ⟨iE8, tE8, sE2_8⟩
    | 9, _ => ⟨iE9, tE9, sE2_9⟩
    | 10, _ => ⟨iE10, tE10, sE2_10⟩
    | 11, _ => ⟨iE11, tE11, sE2_11⟩
    | 12, _ => ⟨iE12, tE12, sE2_12⟩
    | 13, _ => ⟨iE13, tE13, sE2_13⟩
    | 14, _ => ⟨iE14, tE14, sE2_14⟩
    | j + 15, h => absurd h (by omega)
  have R_UnknownOrder : ErrR K mg "UnknownOrder" E2 := ⟨PySem.W.mg_of X G gE2, xE2, kE2, bE2, tE2⟩
  have X_InvalidResult : Err15 K CP cE E7 7 := err15_mk (by decide) ⟨h1E7, h2E7, bE7, h3E7, h4E7, heN, heT, h5E7⟩ (exm_mk bEP iEP tEP sE7_P) vE7 rfl fun j hj => match j, hj with
    | 0, _ => ⟨iE0, tE0, sE7_0⟩
    | 1, _ => ⟨iE1, tE1, sE7_1⟩
    | 2, _ => ⟨iE2, tE2, sE7_2⟩
    | 3, _ => ⟨iE3, tE3, sE7_3⟩
    | 4, _ => ⟨iE4, tE4, sE7_4⟩
    | 5, _ => ⟨iE5, tE5, sE7_5⟩
    | 6, _ => ⟨iE6, tE6, sE7_6⟩
    | 7, _ => ⟨iE7, tE7, sE7_7⟩
    | 8, _ => ⟨iE8, tE8, sE7_8⟩
    | 9, _ => ⟨iE9, tE9, sE7_9⟩
    | 10, _ => ⟨iE10, tE10, sE7_10⟩
    | 11, _ => ⟨iE11, tE11, sE7_11⟩
    | 12, _ => ⟨iE12, tE12, sE7_12⟩
    | 13, _ => ⟨iE13, tE13, sE7_13⟩
    | 14, _ => ⟨iE14, tE14, sE7_14⟩
    | j + 15, h => absurd h (by omega)
  have R_InvalidResult : ErrR K mg "InvalidResult" E7 := ⟨PySem.W.mg_of X G gE7, xE7, kE7, bE7, tE7⟩
  have X_Contradiction : Err15 K CP cE E8 8 := err15_mk (by decide) ⟨h1E8, h2E8, bE8, h3E8, h4E8, heN, heT, h5E8⟩ (exm_mk bEP iEP tEP sE8_P) vE8 rfl fun j hj => match j, hj with
    | 0, _ => ⟨iE0, tE0, sE8_0⟩
    | 1, _ => ⟨iE1, tE1, sE8_1⟩
    | 2, _ => ⟨iE2, tE2, sE8_2⟩
    | 3, _ => ⟨iE3, tE3, sE8_3⟩
    | 4, _ => ⟨iE4, tE4, sE8_4⟩
    | 5, _ => ⟨iE5, tE5, sE8_5⟩
    | 6, _ => ⟨iE6, tE6, sE8_6⟩
    | 7, _ => ⟨iE7, tE7, sE8_7⟩
    | 8, _ => ⟨iE8, tE8, sE8_8⟩
    | 9, _ => ⟨iE9, tE9, sE8_9⟩
    | 10, _ => ⟨iE10, tE10, sE8_10⟩
    | 11, _ => ⟨iE11, tE11, sE8_11⟩
    | 12, _ => ⟨iE12, tE12, sE8_12⟩
    | 13, _ => ⟨iE13, tE13, sE8_13⟩
    | 14, _ => ⟨iE14, tE14, sE8_14⟩
    | j + 15, h => absurd h (by omega)
  have R_Contradiction : ErrR K mg "Contradiction" E8 := ⟨PySem.W.mg_of X G gE8, xE8, kE8, bE8, tE8⟩
  have G_is_integer := PySem.W.mg_of X G a1
  have F_is_integer := fun_mk (st := s_is_integer) l1 c1 k1
  have B_is_integer := F_is_integer.binds (ps := P_is_integer) fun _ _ _ _ _ _ us hl => match us, hl with | [_], _ => rfl
  have G_is_within := PySem.W.mg_of X G a2
  have F_is_within := fun_mk (st := s_is_within) l2 c2 k2
  have B_is_within := F_is_within.binds (ps := P_is_within) fun _ _ _ _ _ _ us hl => match us, hl with | [_, _, _], _ => rfl
  have G_is_order := PySem.W.mg_of X G a3
  have F_is_order := fun_mk (st := s_is_order) l3 c3 k3
  have B_is_order := F_is_order.binds (ps := P_is_order) fun _ _ _ _ _ _ us hl => match us, hl with | [_, _, _], _ => rfl
  have G_check_orders := PySem.W.mg_of X G a4
  have F_check_orders := fun_mk (st := s_check_orders) l4 c4 k4
  have B_check_orders := F_check_orders.binds (ps := P_check_orders) fun _ _ _ _ _ _ us hl => match us, hl with | [_, _, _], _ => rfl
  have G_find_followed := PySem.W.mg_of X G a5
  have F_find_followed := fun_mk (st := s_find_followed) l5 c5 k5
  have B_find_followed := F_find_followed.binds (ps := P_find_followed) fun _ _ _ _ _ _ us hl => match us, hl with | [_, _, _], _ => rfl
  have G_check_house := PySem.W.mg_of X G a6
  have F_check_house := fun_mk (st := s_check_house) l6 c6 k6
  have B_check_house := F_check_house.binds (ps := P_check_house) fun _ _ _ _ _ _ us hl => match us, hl with | [_, _], _ => rfl
  have G_check_day := PySem.W.mg_of X G a7
  have F_check_day := fun_mk (st := s_check_day) l7 c7 k7
  have B_check_day := F_check_day.binds (ps := P_check_day) fun _ _ _ _ _ _ us hl => match us, hl with | [_], _ => rfl
  have G_check_letter := PySem.W.mg_of X G a8
  have F_check_letter := fun_mk (st := s_check_letter) l8 c8 k8
  have B_check_letter := F_check_letter.binds (ps := P_check_letter) fun _ _ _ _ _ _ us hl => match us, hl with | [_, _, _], _ => rfl
  have G_l_random := PySem.W.mg_of X G a9
  have F_l_random := fun_mk (st := s_l_random) l9 c9 k9
  have B_l_random := F_l_random.binds (ps := P_l_random) fun _ _ _ _ _ _ us hl => match us, hl with | [_, _], _ => rfl
  have G_l_below := PySem.W.mg_of X G a10
  have F_l_below := fun_mk (st := s_l_below) l10 c10 k10
  have B_l_below := F_l_below.binds (ps := P_l_below) fun _ _ _ _ _ _ us hl => match us, hl with | [_, _], _ => rfl
  have G_l_order := PySem.W.mg_of X G a11
  have F_l_order := fun_mk (st := s_l_order) l11 c11 k11
  have B_l_order := F_l_order.binds (ps := P_l_order) fun _ _ _ _ _ _ us hl => match us, hl with | [_, _, _], _ => rfl
  have G_l_small := PySem.W.mg_of X G a12
  have F_l_small := fun_mk (st := s_l_small) l12 c12 k12
  have B_l_small := F_l_small.binds (ps := P_l_small) fun _ _ _ _ _ _ us hl => match us, hl with | [_], _ => rfl
  have G_l_net := PySem.W.mg_of X G a13
  have F_l_net := fun_mk (st := s_l_net) l13 c13 k13
  have B_l_net := F_l_net.binds (ps := P_l_net) fun _ _ _ _ _ _ us hl => match us, hl with | [_], _ => rfl
  have G_l_equal := PySem.W.mg_of X G a14
  have F_l_equal := fun_mk (st := s_l_equal) l14 c14 k14
  have B_l_equal := F_l_equal.binds (ps := P_l_equal) fun _ _ _ _ _ _ us hl => match us, hl with | [_, _], _ => rfl
  have G_l_index := PySem.W.mg_of X G a15
  have F_l_index := fun_mk (st := s_l_index) l15 c15 k15
  have B_l_index := F_l_index.binds (ps := P_l_index) fun _ _ _ _ _ _ us hl => match us, hl with | [_, _, _], _ => rfl
  have G_l_journey := PySem.W.mg_of X G a16
  have F_l_journey := fun_mk (st := s_l_journey) l16 c16 k16
  have B_l_journey := F_l_journey.binds (ps := P_l_journey) fun _ _ _ _ _ _ us hl => match us, hl with | [_, _, _], _ => rfl
  have G_l_result := PySem.W.mg_of X G a17
  have F_l_result := fun_mk (st := s_l_result) l17 c17 k17
  have B_l_result := F_l_result.binds (ps := P_l_result) fun _ _ _ _ _ _ us hl => match us, hl with | [_, _, _], _ => rfl
  have G_letters := PySem.W.mg_of X G a18
  have F_letters := fun_mk (st := s_letters) l18 c18 k18
  have B_letters := F_letters.binds (ps := P_letters) fun _ _ _ _ _ _ us hl => match us, hl with | [_], _ => rfl
  have G_add_ways := PySem.W.mg_of X G a19
  have F_add_ways := fun_mk (st := s_add_ways) l19 c19 k19
  have B_add_ways := F_add_ways.binds (ps := P_add_ways) fun _ _ _ _ _ _ us hl => match us, hl with | [_, _, _, _], _ => rfl
  have G_find_ways := PySem.W.mg_of X G a20
  have F_find_ways := fun_mk (st := s_find_ways) l20 c20 k20
  have B_find_ways := F_find_ways.binds (ps := P_find_ways) fun _ _ _ _ _ _ us hl => match us, hl with | [_], _ => rfl
  have G_result_on := PySem.W.mg_of X G a21
  have F_result_on := fun_mk (st := s_result_on) l21 c21 k21
  have B_result_on := F_result_on.binds (ps := P_result_on) fun _ _ _ _ _ _ us hl => match us, hl with | [_, _], _ => rfl
  have G_check_index := PySem.W.mg_of X G a22
  have F_check_index := fun_mk (st := s_check_index) l22 c22 k22
  have B_check_index := F_check_index.binds (ps := P_check_index) fun _ _ _ _ _ _ us hl => match us, hl with | [_, _], _ => rfl
  have G_with_order := PySem.W.mg_of X G a23
  have F_with_order := fun_mk (st := s_with_order) l23 c23 k23
  have B_with_order := F_with_order.binds (ps := P_with_order) fun _ _ _ _ _ _ us hl => match us, hl with | [_, _, _], _ => rfl
  have G_find_candidates := PySem.W.mg_of X G a24
  have F_find_candidates := fun_mk (st := s_find_candidates) l24 c24 k24
  have B_find_candidates := F_find_candidates.binds (ps := P_find_candidates) fun _ _ _ _ _ _ us hl => match us, hl with | [_, _], _ => rfl
  have G_check_result := PySem.W.mg_of X G a25
  have F_check_result := fun_mk (st := s_check_result) l25 c25 k25
  have B_check_result := F_check_result.binds (ps := P_check_result) fun _ _ _ _ _ _ us hl => match us, hl with | [_, _], _ => rfl
  have G_l_candidates := PySem.W.mg_of X G a26
  have F_l_candidates := fun_mk (st := s_l_candidates) l26 c26 k26
  have B_l_candidates := F_l_candidates.binds (ps := P_l_candidates) fun _ _ _ _ _ _ us hl => match us, hl with | [_, _], _ => rfl
  have G_l_error_of := PySem.W.mg_of X G a27
  have F_l_error_of := fun_mk (st := s_l_error_of) l27 c27 k27
  have B_l_error_of := F_l_error_of.binds (ps := P_l_error_of) fun _ _ _ _ _ _ us hl => match us, hl with | [_], _ => rfl
  have G_l_all_raise := PySem.W.mg_of X G a28
  have F_l_all_raise := fun_mk (st := s_l_all_raise) l28 c28 k28
  have B_l_all_raise := F_l_all_raise.binds (ps := P_l_all_raise) fun _ _ _ _ _ _ us hl => match us, hl with | [_, _], _ => rfl
  have G_law := PySem.W.mg_of X G a29
  have F_law : FunC K "law" "law" s_law fa _ cL := ⟨_, _, _, _, _, _, _, _, rfl, l29, c29⟩
  have F_Net_init := fun_mk (st := s_Net_init) l30 c30 k30
  have B_Net_init := F_Net_init.binds (ps := P_Net_init) fun _ _ _ _ _ _ us hl => match us, hl with | [_, _, _, _], _ => rfl
  have M_Net_init : Mk K C_Net f30 := ⟨mkNet, a30, i30, kcNet⟩
  have F_Net_stop_after := fun_mk (st := s_Net_stop_after) l31 c31 k31
  have B_Net_stop_after := F_Net_stop_after.binds (ps := P_Net_stop_after) fun _ _ _ _ _ _ us hl => match us, hl with | [_, _, _], _ => rfl
  have M_Net_stop_after : Meth K C_Net "stop_after" f31 := ⟨a31, i31, k31⟩
  have F_Watcher_init := fun_mk (st := s_Watcher_init) l32 c32 k32
  have B_Watcher_init := F_Watcher_init.binds (ps := P_Watcher_init) fun _ _ _ _ _ _ us hl => match us, hl with | [_, _, _], _ => rfl
  have M_Watcher_init : Mk K C_Watcher f32 := ⟨mkWatcher, a32, i32, kcWatcher⟩
  have F_Watcher_candidates := fun_mk (st := s_Watcher_candidates) l33 c33 k33
  have B_Watcher_candidates := F_Watcher_candidates.binds (ps := P_Watcher_candidates) fun _ _ _ _ _ _ us hl => match us, hl with | [_], _ => rfl
  have M_Watcher_candidates : PropOf K C_Watcher "candidates" p33 f33 := ⟨a33, pg33, pt33, _, pc33⟩
  have F_Watcher_history := fun_mk (st := s_Watcher_history) l34 c34 k34
  have B_Watcher_history := F_Watcher_history.binds (ps := P_Watcher_history) fun _ _ _ _ _ _ us hl => match us, hl with | [_], _ => rfl
  have M_Watcher_history : PropOf K C_Watcher "history" p34 f34 := ⟨a34, pg34, pt34, _, pc34⟩
  have F_Watcher_result_with := fun_mk (st := s_Watcher_result_with) l35 c35 k35
  have B_Watcher_result_with := F_Watcher_result_with.binds (ps := P_Watcher_result_with) fun _ _ _ _ _ _ us hl => match us, hl with | [_, _, _, _], _ => rfl
  have M_Watcher_result_with : Meth K C_Watcher "result_with" f35 := ⟨a35, i35, k35⟩
  have F_Watcher_count_results := fun_mk (st := s_Watcher_count_results) l36 c36 k36
  have B_Watcher_count_results := F_Watcher_count_results.binds (ps := P_Watcher_count_results) fun _ _ _ _ _ _ us hl => match us, hl with | [_, _, _], _ => rfl
  have M_Watcher_count_results : Meth K C_Watcher "count_results" f36 := ⟨a36, i36, k36⟩
  have F_Watcher_results := fun_mk (st := s_Watcher_results) l37 c37 k37
  have B_Watcher_results := F_Watcher_results.binds (ps := P_Watcher_results) fun _ _ _ _ _ _ us hl => match us, hl with | [_, _, _], _ => rfl
  have M_Watcher_results : Meth K C_Watcher "results" f37 := ⟨a37, i37, k37⟩
  have F_Watcher_see_all := fun_mk (st := s_Watcher_see_all) l38 c38 k38
  have M_Watcher_see_all : Meth K C_Watcher "see_all" f38 := ⟨a38, i38, k38⟩
  have F_Watcher_see := fun_mk (st := s_Watcher_see) l39 c39 k39
  have B_Watcher_see := F_Watcher_see.binds (ps := P_Watcher_see) fun _ _ _ _ _ _ us hl => match us, hl with | [_, _, _, _], _ => rfl
  have M_Watcher_see : Meth K C_Watcher "see" f39 := ⟨a39, i39, k39⟩
  refine ⟨PySem.W.fnOf "law" "law" (defArgs s_law) (defBody s_law) (defScope s_law) .none kV29 dc29 pm29 an29 (.ref cL) ct29, [(cL, PL)], spLawT K PL, fun p hp => ?_, fun p hp => ?_, fun p hp => ?_, fun s v => .of_eq rfl, fun H a ns hl _ hT hS => ⟨a, ns, rfl, hS, hl, hT _ List.mem_cons_self, fun _ => rfl⟩, fun base _ _ hTB => ?_⟩
  · rw [List.mem_singleton.mp hp]
    exact own cL PL _ _ _ _ _ _ l29 rfl rfl tl t11
  · rw [List.mem_singleton.mp hp]
    exact tP
  · rw [List.mem_singleton.mp hp]
    exact PySem.W.codeHd_of_K X th
  have TBl := hTB (cL, PL) List.mem_cons_self
  have D_isint : Df l.prog w K mg base "is_integer" 1 P_is_integer (spIsInt K) := ⟨_, _, G_is_integer, F_is_integer.kp, B_is_integer, ok_isint F_is_integer B⟩
  have D_within : Df l.prog w K mg base "is_within" 2 P_is_within (spWithin K) := ⟨_, _, G_is_within, F_is_within.kp, B_is_within, ok_within F_is_within D_isint⟩
  have D_order : Df l.prog w K mg base "is_order" 3 P_is_order (spIsOrder K) := ⟨_, _, G_is_order, F_is_order.kp, B_is_order, ok_is_order F_is_order B D_within K_LONGEST_DELAY⟩
  have D_chk : Df l.prog w K mg base "check_orders" 4 P_check_orders spChkOrders := ⟨_, _, G_check_orders, F_check_orders.kp, B_check_orders, ok_chk_orders F_check_orders B D_order K_MOST_ORDERS⟩
  have D_fol : Df l.prog w K mg base "find_followed" 2 P_find_followed spFollowed := ⟨_, _, G_find_followed, F_find_followed.kp, B_find_followed, ok_followed F_find_followed B⟩
  have D_house : Df l.prog w K mg base "check_house" 3 P_check_house (spHouse C_Net) := ⟨_, _, G_check_house, F_check_house.kp, B_check_house, ok_house F_check_house T_Net D_within⟩
  have D_day : Df l.prog w K mg base "check_day" 3 P_check_day spDay := ⟨_, _, G_check_day, F_check_day.kp, B_check_day, ok_day F_check_day D_within K_LAST_DAY⟩
  have D_let : Df l.prog w K mg base "check_letter" 4 P_check_letter (spLetter C_Net) := ⟨_, _, G_check_letter, F_check_letter.kp, B_check_letter, ok_letter F_check_letter D_house D_day⟩
  have D_rnd : Df l.prog w K mg base "_law_random" 2 P_l_random (spRandom K) := ⟨_, _, G_l_random, F_l_random.kp, B_l_random, ok_random F_l_random B⟩
  have D_bel : Df l.prog w K mg base "_law_below" 2 P_l_below spBelow := ⟨_, _, G_l_below, F_l_below.kp, B_l_below, ok_below F_l_below B.len⟩
  have D_ord : Df l.prog w K mg base "_law_order" 3 P_l_order spOrder := ⟨_, _, G_l_order, F_l_order.kp, B_l_order, ok_order F_l_order D_bel⟩
  have D_sml : Df l.prog w K mg base "_law_small" 4 P_l_small spSmall := ⟨_, _, G_l_small, F_l_small.kp, B_l_small, ok_small F_l_small B D_bel D_ord⟩
  have O_init : FnOk l.prog w K mg base CX0 5 _ _ P_Net_init (spInit C_Net) := ok_init F_Net_init T_Net D_within D_chk D_fol K_LONGEST_PERIOD K_MOST_HOUSES
  have D_net : Df l.prog w K mg base "_law_net" 7 P_l_net (spNet C_Net) := ⟨_, _, G_l_net, F_l_net.kp, B_l_net, ok_net F_l_net M_Net_init G_Net O_init B_Net_init⟩
  have D_eq : ∀ n, Df l.prog w K mg base "_law_equal" (n + 2) P_l_equal (spEqual n) := fun n => ⟨_, _, G_l_equal, F_l_equal.kp, B_l_equal, (ok_equal F_l_equal B G_l_equal B_l_equal n).mono (by omega)⟩
  have D_idx : Df l.prog w K mg base "_law_index" 2 P_l_index spIndex := ⟨_, _, G_l_index, F_l_index.kp, B_l_index, ok_index F_l_index B⟩
  have O_stop : FnOk l.prog w K mg base CX0 2 _ _ P_Net_stop_after (spStop C_Net) := ok_stop_after F_Net_stop_after T_Net
  have D_jo : Df l.prog w K mg base "_law_journey" 3 P_l_journey spJourney := ⟨_, _, G_l_journey, F_l_journey.kp, B_l_journey, ok_journey F_l_journey B D_idx⟩
  have D_re : Df l.prog w K mg base "_law_result" 4 P_l_result spResult := ⟨_, _, G_l_result, F_l_result.kp, B_l_result, ok_result F_l_result D_jo⟩
  have D_ls : Df l.prog w K mg base "letters" 2 P_letters (spLets C_Net) := ⟨_, _, G_letters, F_letters.kp, B_letters, ok_letters F_letters B T_Net⟩
  have D_aw : Df l.prog w K mg base "add_ways" 3 P_add_ways (spAddWays C_Net) := ⟨_, _, G_add_ways, F_add_ways.kp, B_add_ways, ok_add_ways F_add_ways T_Net O_stop M_Net_stop_after B_Net_stop_after⟩
  have D_fw : Df l.prog w K mg base "find_ways" 4 P_find_ways (spFindWays C_Net) := ⟨_, _, G_find_ways, F_find_ways.kp, B_find_ways, ok_find_ways F_find_ways D_ls D_aw⟩
  have D_ro2 : Df l.prog w K mg base "result_on" 2 P_result_on spResOn := ⟨_, _, G_result_on, F_result_on.kp, B_result_on, ok_res_on F_result_on⟩
  have D_ci : Df l.prog w K mg base "check_index" 3 P_check_index spChkIx := ⟨_, _, G_check_index, F_check_index.kp, B_check_index, ok_chk_ix F_check_index B D_within⟩
  have D_wi : Df l.prog w K mg base "with_order" 1 P_with_order spWith := ⟨_, _, G_with_order, F_with_order.kp, B_with_order, ok_with F_with_order⟩
  have D_fcd : Df l.prog w K mg base "find_candidates" 7 P_find_candidates (spCands C_Net) := ⟨_, _, G_find_candidates, F_find_candidates.kp, B_find_candidates, ok_cands F_find_candidates B T_Net M_Net_init G_Net O_init B_Net_init D_wi D_fw K_LONGEST_DELAY⟩
  have O_wn : FnOk l.prog w K mg base CX0 8 _ _ P_Watcher_init (spWInit C_Watcher C_Net) := ok_w_init F_Watcher_init B.list T_Watcher T_Net D_ci D_fcd
  have O_wc : FnOk l.prog w K mg base CX0 1 _ _ P_Watcher_candidates (spWCands C_Watcher C_Net) := ok_w_cands F_Watcher_candidates B T_Watcher
  have O_whi : FnOk l.prog w K mg base CX0 1 _ _ P_Watcher_history (spWHist C_Watcher C_Net) := ok_w_hist F_Watcher_history B T_Watcher
  have O_wr : FnOk l.prog w K mg base CX0 3 _ _ P_Watcher_result_with (spWRes C_Watcher C_Net) := ok_w_res F_Watcher_result_with T_Watcher T_Net D_ro2
  have D_cr : Df l.prog w K mg base "check_result" 3 P_check_result (spChkRes C_Net) := ⟨_, _, G_check_result, F_check_result.kp, B_check_result, ok_chk_res F_check_result B T_Net D_within D_isint⟩
  have O_wct : FnOk l.prog w K mg base CX0 4 _ _ P_Watcher_count_results (spWCnt l.prog w C_Watcher C_Net) := ok_w_cnt F_Watcher_count_results T_Watcher M_Watcher_result_with O_wr B_Watcher_result_with
  have O_wrs : FnOk l.prog w K mg base CX0 5 _ _ P_Watcher_results (spWRess C_Watcher C_Net) := ok_w_ress F_Watcher_results T_Watcher Z_sorted D_let M_Watcher_count_results O_wct B_Watcher_count_results
  have O_wsa : FnR l.prog w K mg base CX0 5 _ (spWAll C_Watcher C_Net) := ok_w_all F_Watcher_see_all B T_Watcher T_Net D_let D_cr M_Watcher_result_with O_wr B_Watcher_result_with
  have O_wse : FnOk l.prog w K mg base CX0 6 _ _ P_Watcher_see (spWSee C_Watcher C_Net) := ok_w_see F_Watcher_see T_Watcher M_Watcher_see_all O_wsa
  have D_lcd : Df l.prog w K mg base "_law_candidates" 1 P_l_candidates spLCands := ⟨_, _, G_l_candidates, F_l_candidates.kp, B_l_candidates, ok_lcands F_l_candidates B⟩
  have O_ch0 : FnOk l.prog w K mg base CX0 3 _ _ P_check_house (spHouse C_Net) := ok_house F_check_house T_Net D_within
  have O_chX : FnOk l.prog w K mg base (L2.CX l.prog w) 3 _ _ P_check_house (spHouseX C_Net E1) := ok_houseX F_check_house T_Net R_UnknownHouse D_within
  have O_cdX : FnOk l.prog w K mg base (L2.CX l.prog w) 3 _ _ P_check_day (spDayX E0) := ok_dayX F_check_day R_InvalidDay D_within K_LAST_DAY
  have O_lt0 : FnOk l.prog w K mg base CX0 4 _ _ P_check_letter (spLetter C_Net) := ok_letter F_check_letter ⟨_, _, G_check_house, F_check_house.kp, B_check_house, O_ch0⟩ ⟨_, _, G_check_day, F_check_day.kp, B_check_day, ok_day F_check_day D_within K_LAST_DAY⟩
  have O_ltX : FnOk l.prog w K mg base (L2.CX l.prog w) 4 _ _ P_check_letter (spLetX C_Net E1 E0) := ok_letterX F_check_letter G_check_house F_check_house.kp B_check_house O_ch0 O_chX G_check_day F_check_day.kp B_check_day O_cdX
  have O_cr0 : FnOk l.prog w K mg base CX0 3 _ _ P_check_result (spChkRes C_Net) := ok_chk_res F_check_result B T_Net D_within D_isint
  have O_crX : FnOk l.prog w K mg base (L2.CX l.prog w) 3 _ _ P_check_result (spChkResX C_Net E7) := ok_chk_resX F_check_result B T_Net R_InvalidResult D_within D_isint
  have O_wsaB : FnR l.prog w K mg base (L2.CX l.prog w) 5 _ (spWAllB C_Watcher C_Net E1 E0 E7) := ok_w_allB F_Watcher_see_all B T_Watcher T_Net G_check_letter F_check_letter.kp B_check_letter O_lt0 O_ltX G_check_result F_check_result.kp B_check_result O_cr0 O_crX M_Watcher_result_with O_wr B_Watcher_result_with
  have O_wsaX : FnR l.prog w K mg base (L2.CX l.prog w) 5 _ (spWAllX C_Watcher C_Net E8) := ok_w_allX F_Watcher_see_all B T_Watcher T_Net R_Contradiction D_let D_cr M_Watcher_result_with O_wr B_Watcher_result_with
  have O_wseB : FnOk l.prog w K mg base (L2.CX l.prog w) 6 _ _ P_Watcher_see (spWSeeB C_Watcher C_Net E1 E0 E7) := ok_w_seeB F_Watcher_see T_Watcher M_Watcher_see_all O_wsaB
  have O_ixV : FnOk l.prog w K mg base (L2.CX l.prog w) 3 _ _ P_check_index (spChkIxV K E2) := ok_chk_ixV F_check_index B R_UnknownOrder D_within
  have O_wnX : FnOk l.prog w K mg base (L2.CX l.prog w) 5 _ _ P_Watcher_init (spWInitX K C_Watcher C_Net E2) := (ok_w_initX F_Watcher_init T_Net G_check_index F_check_index.kp B_check_index O_ixV).mono (by decide)
  have D_erv : Df l.prog w K mg base "_law_error_of" 8 P_l_error_of (spErrV l.prog w K mg base CP cE 7) := ⟨_, _, G_l_error_of, F_l_error_of.kp, B_l_error_of, ok_errv F_l_error_of B ME (by decide)⟩
  have E15s : ∀ j, j = 0 ∨ j = 1 ∨ j = 2 ∨ j = 7 ∨ j = 8 → Err15 K CP cE (cE j) j := fun j hj => hj.elim (fun e => by subst e; exact X_InvalidDay) fun hj => hj.elim (fun e => by subst e; exact X_UnknownHouse) fun hj => hj.elim (fun e => by subst e; exact X_UnknownOrder) fun hj => hj.elim (fun e => by subst e; exact X_InvalidResult) fun e => by subst e; exact X_Contradiction
  have shE : ∀ i, i < 15 → PySem.SeqAt.shaped (.tuple [.str (eName i), .int 0]) = true := by decide +kernel
  have O_ar : FnOk l.prog w K mg base CX0 10 _ _ P_l_all_raise (spAllR l.prog w K mg base cE 7 7) := ok_allr F_l_all_raise D_erv X_InvalidResult (by decide) shE
  exact ok_law F_law TBl B Z_sorted T_Net T_Watcher F_l_error_of G_l_error_of F_l_error_of.kp B_l_error_of ME E15s G_l_all_raise F_l_all_raise.kp B_l_all_raise O_ar D_rnd D_bel D_sml D_net D_lcd D_re D_eq G_Watcher M_Watcher_init O_wn O_wnX B_Watcher_init M_Watcher_see_all O_wsa O_wsaB O_wsaX M_Watcher_see O_wse O_wseB B_Watcher_see M_Watcher_candidates O_wc B_Watcher_candidates M_Watcher_history O_whi B_Watcher_history
end Cp
open PySem PySem.W PyProof.Rows
set_option maxRecDepth 100000 in
set_option maxHeartbeats 0 in
theorem PySem.Challenge.cw_chasepost_k15_letters_seen_together_holds : PySem.Challenge.rw_chasepost_k15_letters_seen_together.Holds := by
  w_on; o_law; k_head; (case hw => w_witness2)
  k_fill
  refine LamX.walk_ofOwn (l := PySem.Challenge.rw_chasepost_k15_letters_seen_together) (n := 63) (k := 11) (x := "_law_script") (CX := fun _ => L2.CX0) rfl (by decide) rfl ⟨rfl, by decide, by decide⟩ (by decide +kernel) (fun w h Y => PySem.W.km_in_of Y) ?F (fun _ _ _ _ _ h => h)
  case F =>
    intro w mg fa h Y KX G hmg own
    refine' Cp.all_mk KX G hmg own ?aCNet ?aCWatcher ?a1 ?l1 ?c1 ?k1 ?a2 ?l2 ?c2 ?k2 ?a3 ?l3 ?c3 ?k3 ?a4 ?l4 ?c4 ?k4 ?a5 ?l5 ?c5 ?k5 ?a6 ?l6 ?c6 ?k6 ?a7 ?l7 ?c7 ?k7 ?a8 ?l8 ?c8 ?k8 ?a9 ?l9 ?c9 ?k9 ?a10 ?l10 ?c10 ?k10 ?a11 ?l11 ?c11 ?k11 ?a12 ?l12 ?c12 ?k12 ?a13 ?l13 ?c13 ?k13 ?a14 ?l14 ?c14 ?k14 ?a15 ?l15 ?c15 ?k15 ?a16 ?l16 ?c16 ?k16 ?a17 ?l17 ?c17 ?k17 ?a18 ?l18 ?c18 ?k18 ?a19 ?l19 ?c19 ?k19 ?a20 ?l20 ?c20 ?k20 ?a21 ?l21 ?c21 ?k21 ?a22 ?l22 ?c22 ?k22 ?a23 ?l23 ?c23 ?k23 ?a24 ?l24 ?c24 ?k24 ?a25 ?l25 ?c25 ?k25 ?a26 ?l26 ?c26 ?k26 ?a27 ?l27 ?c27 ?k27 ?a28 ?l28 ?c28 ?k28 ?a29 ?l29 ?c29 ?k29 ?a30 ?i30 ?l30 ?c30 ?k30 ?a31 ?i31 ?l31 ?c31 ?k31 ?a32 ?i32 ?l32 ?c32 ?k32 ?a33 ?pg33 ?pt33 ?pc33 ?l33 ?c33 ?k33 ?a34 ?pg34 ?pt34 ?pc34 ?l34 ?c34 ?k34 ?a35 ?i35 ?l35 ?c35 ?k35 ?a36 ?i36 ?l36 ?c36 ?k36 ?a37 ?i37 ?l37 ?c37 ?k37 ?a38 ?i38 ?l38 ?c38 ?k38 ?a39 ?i39 ?l39 ?c39 ?k39 ?pgNet ?hdNet ?poNet ?saNet ?mkNet ?kcNet ?nNet_period ?nNet_houses ?nNet_orders ?nNet_followed ?pgWatcher ?hdWatcher ?poWatcher ?saWatcher ?mkWatcher ?kcWatcher ?nWatcher_net ?nWatcher_ways ?nWatcher_remaining ?nWatcher_accepted ?vLAST_DAY ?vLONGEST_PERIOD ?vMOST_HOUSES ?vMOST_ORDERS ?vLONGEST_DELAY ?zlen ?zrange ?zisinstance ?zint ?zbool ?zstr ?ztuple ?zlist ?zall ?zabs ?zenumerate ?zsorted ?tl ?t11 ?tP ?th ?gEP ?iEP ?tEP ?bEP ?zVE ?gE0 ?iE0 ?tE0 ?gE1 ?iE1 ?tE1 ?gE2 ?iE2 ?tE2 ?gE3 ?iE3 ?tE3 ?gE4 ?iE4 ?tE4 ?gE5 ?iE5 ?tE5 ?gE6 ?iE6 ?tE6 ?gE7 ?iE7 ?tE7 ?gE8 ?iE8 ?tE8 ?gE9 ?iE9 ?tE9 ?gE10 ?iE10 ?tE10 ?gE11 ?iE11 ?tE11 ?gE12 ?iE12 ?tE12 ?gE13 ?iE13 ?tE13 ?gE14 ?iE14 ?tE14 ?heN ?heT ?sE0_0 ?sE0_1 ?sE0_2 ?sE0_3 ?sE0_4 ?sE0_5 ?sE0_6 ?sE0_7 ?sE0_8 ?sE0_9 ?sE0_10 ?sE0_11 ?sE0_12 ?sE0_13 ?sE0_14 ?sE0_P ?bE0 ?vE0 ?kE0 ?h1E0 ?h2E0 ?h3E0 ?h4E0 ?h5E0 ?xE0 ?sE1_0 ?sE1_1 ?sE1_2 ?sE1_3 ?sE1_4 ?sE1_5 ?sE1_6 ?sE1_7 ?sE1_8 ?sE1_9 ?sE1_10 ?sE1_11 ?sE1_12 ?sE1_13 ?sE1_14 ?sE1_P ?bE1 ?vE1 ?kE1 ?h1E1 ?h2E1 ?h3E1 ?h4E1 ?h5E1 ?xE1 ?sE2_0 ?sE2_1 ?sE2_2 ?sE2_3 ?sE2_4 ?sE2_5 ?sE2_6 ?sE2_7 ?sE2_8 ?sE2_9 ?sE2_10 ?sE2_11 ?sE2_12 ?sE2_13 ?sE2_14 ?sE2_P ?bE2 ?vE2 ?kE2 ?h1E2 ?h2E2 ?h3E2 ?h4E2 ?h5E2 ?xE2 ?sE7_0 ?sE7_1 ?sE7_2 ?sE7_3 ?sE7_4 ?sE7_5 ?sE7_6 ?sE7_7 ?sE7_8 ?sE7_9 ?sE7_10 ?sE7_11 ?sE7_12 ?sE7_13 ?sE7_14 ?sE7_P ?bE7 ?vE7 ?kE7 ?h1E7 ?h2E7 ?h3E7 ?h4E7 ?h5E7 ?xE7 ?sE8_0 ?sE8_1 ?sE8_2 ?sE8_3 ?sE8_4 ?sE8_5 ?sE8_6 ?sE8_7 ?sE8_8 ?sE8_9 ?sE8_10 ?sE8_11 ?sE8_12 ?sE8_13 ?sE8_14 ?sE8_P ?bE8 ?vE8 ?kE8 ?h1E8 ?h2E8 ?h3E8 ?h4E8 ?h5E8 ?xE8
    (case aCNet => k_is)
    (case aCWatcher => k_is)
    (case a1 => k_is)
    (case l1 => k_is)
    (case c1 => k_is)
    (case k1 => k_is)
    (case a2 => k_is)
    (case l2 => k_is)
    (case c2 => k_is)
    (case k2 => k_is)
    (case a3 => k_is)
    (case l3 => k_is)
    (case c3 => k_is)
    (case k3 => k_is)
    (case a4 => k_is)
    (case l4 => k_is)
    (case c4 => k_is)
    (case k4 => k_is)
    (case a5 => k_is)
    (case l5 => k_is)
    (case c5 => k_is)
    (case k5 => k_is)
    (case a6 => k_is)
    (case l6 => k_is)
    (case c6 => k_is)
    (case k6 => k_is)
    (case a7 => k_is)
    (case l7 => k_is)
    (case c7 => k_is)
    (case k7 => k_is)
    (case a8 => k_is)
    (case l8 => k_is)
    (case c8 => k_is)
    (case k8 => k_is)
    (case a9 => k_is)
    (case l9 => k_is)
    (case c9 => k_is)
    (case k9 => k_is)
    (case a10 => k_is)
    (case l10 => k_is)
    (case c10 => k_is)
    (case k10 => k_is)
    (case a11 => k_is)
    (case l11 => k_is)
    (case c11 => k_is)
    (case k11 => k_is)
    (case a12 => k_is)
    (case l12 => k_is)
    (case c12 => k_is)
    (case k12 => k_is)
    (case a13 => k_is)
    (case l13 => k_is)
    (case c13 => k_is)
    (case k13 => k_is)
    (case a14 => k_is)
    (case l14 => k_is)
    (case c14 => k_is)
    (case k14 => k_is)
    (case a15 => k_is)
    (case l15 => k_is)
    (case c15 => k_is)
    (case k15 => k_is)
    (case a16 => k_is)
    (case l16 => k_is)
    (case c16 => k_is)
    (case k16 => k_is)
    (case a17 => k_is)
    (case l17 => k_is)
    (case c17 => k_is)
    (case k17 => k_is)
    (case a18 => k_is)
    (case l18 => k_is)
    (case c18 => k_is)
    (case k18 => k_is)
    (case a19 => k_is)
    (case l19 => k_is)
    (case c19 => k_is)
    (case k19 => k_is)
    (case a20 => k_is)
    (case l20 => k_is)
    (case c20 => k_is)
    (case k20 => k_is)
    (case a21 => k_is)
    (case l21 => k_is)
    (case c21 => k_is)
    (case k21 => k_is)
    (case a22 => k_is)
    (case l22 => k_is)
    (case c22 => k_is)
    (case k22 => k_is)
    (case a23 => k_is)
    (case l23 => k_is)
    (case c23 => k_is)
    (case k23 => k_is)
    (case a24 => k_is)
    (case l24 => k_is)
    (case c24 => k_is)
    (case k24 => k_is)
    (case a25 => k_is)
    (case l25 => k_is)
    (case c25 => k_is)
    (case k25 => k_is)
    (case a26 => k_is)
    (case l26 => k_is)
    (case c26 => k_is)
    (case k26 => k_is)
    (case a27 => k_is)
    (case l27 => k_is)
    (case c27 => k_is)
    (case k27 => k_is)
    (case a28 => k_is)
    (case l28 => k_is)
    (case c28 => k_is)
    (case k28 => k_is)
    (case a29 => k_is)
    (case l29 => k_is)
    (case c29 => k_is)
    (case k29 => k_is)
    (case a30 => k_is)
    (case i30 => k_is)
    (case l30 => k_is)
    (case c30 => k_is)
    (case k30 => k_is)
    (case a31 => k_is)
    (case i31 => k_is)
    (case l31 => k_is)
    (case c31 => k_is)
    (case k31 => k_is)
    (case a32 => k_is)
    (case i32 => k_is)
    (case l32 => k_is)
    (case c32 => k_is)
    (case k32 => k_is)
    (case a33 => k_is)
    (case pg33 => k_is)
    (case pt33 => k_is)
    (case pc33 => k_is)
    (case l33 => k_is)
    (case c33 => k_is)
    (case k33 => k_is)
    (case a34 => k_is)
    (case pg34 => k_is)
    (case pt34 => k_is)
    (case pc34 => k_is)
    (case l34 => k_is)
    (case c34 => k_is)
    (case k34 => k_is)
    (case a35 => k_is)
    (case i35 => k_is)
    (case l35 => k_is)
    (case c35 => k_is)
    (case k35 => k_is)
    (case a36 => k_is)
    (case i36 => k_is)
    (case l36 => k_is)
    (case c36 => k_is)
    (case k36 => k_is)
    (case a37 => k_is)
    (case i37 => k_is)
    (case l37 => k_is)
    (case c37 => k_is)
    (case k37 => k_is)
    (case a38 => k_is)
    (case i38 => k_is)
    (case l38 => k_is)
    (case c38 => k_is)
    (case k38 => k_is)
    (case a39 => k_is)
    (case i39 => k_is)
    (case l39 => k_is)
    (case c39 => k_is)
    (case k39 => k_is)
    (case pgNet => k_is)
    (case hdNet => k_is)
    (case poNet => k_is)
    (case saNet => k_is)
    (case mkNet => k_is)
    (case kcNet => k_is)
    (case nNet_period => k_is)
    (case nNet_houses => k_is)
    (case nNet_orders => k_is)
    (case nNet_followed => k_is)
    (case pgWatcher => k_is)
    (case hdWatcher => k_is)
    (case poWatcher => k_is)
    (case saWatcher => k_is)
    (case mkWatcher => k_is)
    (case kcWatcher => k_is)
    (case nWatcher_net => k_is)
    (case nWatcher_ways => k_is)
    (case nWatcher_remaining => k_is)
    (case nWatcher_accepted => k_is)
    (case vLAST_DAY => k_is)
    (case vLONGEST_PERIOD => k_is)
    (case vMOST_HOUSES => k_is)
    (case vMOST_ORDERS => k_is)
    (case vLONGEST_DELAY => k_is)
    (case zlen => k_is)
    (case zrange => k_is)
    (case zisinstance => k_is)
    (case zint => k_is)
    (case zbool => k_is)
    (case zstr => k_is)
    (case ztuple => k_is)
    (case zlist => k_is)
    (case zall => k_is)
    (case zabs => k_is)
    (case zenumerate => k_is)
    (case zsorted => k_is)
    (case tl => k_is)
    (case t11 => rfl)
    (case tP => first | rfl | decide +kernel)
    (case th => first | rfl | decide +kernel)
    (case gEP => k_is)
    (case iEP => k_is)
    (case tEP => k_is)
    (case bEP => k_is)
    (case zVE => k_is)
    (case gE0 => k_is)
    (case iE0 => k_is)
    (case tE0 => k_is)
    (case gE1 => k_is)
    (case iE1 => k_is)
    (case tE1 => k_is)
    (case gE2 => k_is)
    (case iE2 => k_is)
    (case tE2 => k_is)
    (case gE3 => k_is)
    (case iE3 => k_is)
    (case tE3 => k_is)
    (case gE4 => k_is)
    (case iE4 => k_is)
    (case tE4 => k_is)
    (case gE5 => k_is)
    (case iE5 => k_is)
    (case tE5 => k_is)
    (case gE6 => k_is)
    (case iE6 => k_is)
    (case tE6 => k_is)
    (case gE7 => k_is)
    (case iE7 => k_is)
    (case tE7 => k_is)
    (case gE8 => k_is)
    (case iE8 => k_is)
    (case tE8 => k_is)
    (case gE9 => k_is)
    (case iE9 => k_is)
    (case tE9 => k_is)
    (case gE10 => k_is)
    (case iE10 => k_is)
    (case tE10 => k_is)
    (case gE11 => k_is)
    (case iE11 => k_is)
    (case tE11 => k_is)
    (case gE12 => k_is)
    (case iE12 => k_is)
    (case tE12 => k_is)
    (case gE13 => k_is)
    (case iE13 => k_is)
    (case tE13 => k_is)
    (case gE14 => k_is)
    (case iE14 => k_is)
    (case tE14 => k_is)
    (case heN => k_is)
    (case heT => k_is)
    (case sE0_0 => k_is)
    (case sE0_1 => k_is)
    (case sE0_2 => k_is)
    (case sE0_3 => k_is)
    (case sE0_4 => k_is)
    (case sE0_5 => k_is)
    (case sE0_6 => k_is)
    (case sE0_7 => k_is)
    (case sE0_8 => k_is)
    (case sE0_9 => k_is)
    (case sE0_10 => k_is)
    (case sE0_11 => k_is)
    (case sE0_12 => k_is)
    (case sE0_13 => k_is)
    (case sE0_14 => k_is)
    (case sE0_P => k_is)
    (case bE0 => k_is)
    (case vE0 => k_is)
    (case kE0 => k_is)
    (case h1E0 => k_is)
    (case h2E0 => k_is)
    (case h3E0 => k_is)
    (case h4E0 => k_is)
    (case h5E0 => k_is)
    (case xE0 => k_exc)
    (case sE1_0 => k_is)
    (case sE1_1 => k_is)
    (case sE1_2 => k_is)
    (case sE1_3 => k_is)
    (case sE1_4 => k_is)
    (case sE1_5 => k_is)
    (case sE1_6 => k_is)
    (case sE1_7 => k_is)
    (case sE1_8 => k_is)
    (case sE1_9 => k_is)
    (case sE1_10 => k_is)
    (case sE1_11 => k_is)
    (case sE1_12 => k_is)
    (case sE1_13 => k_is)
    (case sE1_14 => k_is)
    (case sE1_P => k_is)
    (case bE1 => k_is)
    (case vE1 => k_is)
    (case kE1 => k_is)
    (case h1E1 => k_is)
    (case h2E1 => k_is)
    (case h3E1 => k_is)
    (case h4E1 => k_is)
    (case h5E1 => k_is)
    (case xE1 => k_exc)
    (case sE2_0 => k_is)
    (case sE2_1 => k_is)
    (case sE2_2 => k_is)
    (case sE2_3 => k_is)
    (case sE2_4 => k_is)
    (case sE2_5 => k_is)
    (case sE2_6 => k_is)
    (case sE2_7 => k_is)
    (case sE2_8 => k_is)
    (case sE2_9 => k_is)
    (case sE2_10 => k_is)
    (case sE2_11 => k_is)
    (case sE2_12 => k_is)
    (case sE2_13 => k_is)
    (case sE2_14 => k_is)
    (case sE2_P => k_is)
    (case bE2 => k_is)
    (case vE2 => k_is)
    (case kE2 => k_is)
    (case h1E2 => k_is)
    (case h2E2 => k_is)
    (case h3E2 => k_is)
    (case h4E2 => k_is)
    (case h5E2 => k_is)
    (case xE2 => k_exc)
    (case sE7_0 => k_is)
    (case sE7_1 => k_is)
    (case sE7_2 => k_is)
    (case sE7_3 => k_is)
    (case sE7_4 => k_is)
    (case sE7_5 => k_is)
    (case sE7_6 => k_is)
    (case sE7_7 => k_is)
    (case sE7_8 => k_is)
    (case sE7_9 => k_is)
    (case sE7_10 => k_is)
    (case sE7_11 => k_is)
    (case sE7_12 => k_is)
    (case sE7_13 => k_is)
    (case sE7_14 => k_is)
    (case sE7_P => k_is)
    (case bE7 => k_is)
    (case vE7 => k_is)
    (case kE7 => k_is)
    (case h1E7 => k_is)
    (case h2E7 => k_is)
    (case h3E7 => k_is)
    (case h4E7 => k_is)
    (case h5E7 => k_is)
    (case xE7 => k_exc)
    (case sE8_0 => k_is)
    (case sE8_1 => k_is)
    (case sE8_2 => k_is)
    (case sE8_3 => k_is)
    (case sE8_4 => k_is)
    (case sE8_5 => k_is)
    (case sE8_6 => k_is)
    (case sE8_7 => k_is)
    (case sE8_8 => k_is)
    (case sE8_9 => k_is)
    (case sE8_10 => k_is)
    (case sE8_11 => k_is)
    (case sE8_12 => k_is)
    (case sE8_13 => k_is)
    (case sE8_14 => k_is)
    (case sE8_P => k_is)
    (case bE8 => k_is)
    (case vE8 => k_is)
    (case kE8 => k_is)
    (case h1E8 => k_is)
    (case h2E8 => k_is)
    (case h3E8 => k_is)
    (case h4E8 => k_is)
    (case h5E8 => k_is)
    (case xE8 => k_exc)
