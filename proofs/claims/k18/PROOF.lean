import PyProof.Rows.All
import Wide.All
import OpenK.AllK
import Wide.FinOn
import HandS.ForMost
import HandS.IsInst
import HandS.Property
import HandS.Codes
import HandS.Style
import HandS.WordsExc
import KE.KEqSeq
import HandS.Deep
import HandS.GenList
import HandS.GenYield
import KE.GoesMore
import PyProof.Draws
import KE.SortData
import KE.KUnpackStar
import HandS.CallLocal
import KE.KAssignIn
import KE.GoesEnumKw
import HandS.ClsMeth
import HandS.FStr
import HandS.StrMore
import KE.DataFind
import HandS.Conv
import HandS.SortInts
import KE.DataMinMax
import HandS.SortKw
import HandS.DictTup
import KE.KExcSuper
import HandS.ExcInit
import HandS.ExcField
import KE.KExcIs
import KE.KDictCopyH
import HandS.TupAny
import HandS.TupMul
import HandS.Wide
import HandS.Star
import HandS.NoneIn
import KE.KRevSl
import HandS.Lambda
import HandS.ExcIs
import HandS.TryOnly
import HandS.EndOwn
import KE.KNestM
import HandS.TupLen
import HandS.TupSets
import PySem.Challenge.RW_chasepost_k18_invalid_texts
import HandS.ExcCtx
import HandS.Hot
import HandS.HotCalls
import KE.KExcRaise
import HandS.SuiteRaise
import HandS.RaiseFrom
import HandS.ExcInitHot
set_option Elab.async false
set_option linter.all false
set_option maxRecDepth 100000
namespace Cp
open PySem L2
def top (i : Nat) : Stmt := PySem.Challenge.pw_chasepost_k18_invalid_texts.main.body.getD i (.Pass ⟨0, 0, 0, 0⟩)
/-! ### enumerate over a tuple: a walk for a for (the library's own serves lists) -/
section
open PyProof.Rows
open PySem.AutoSeq1 (wpAny_loadPart')
/-- what enumerate makes of a tuple: its iterator, then the enumerate object -/
abbrev enumHeap (g : Heap) (t : Addr) : Heap :=
  (g.push { cls := .type "tuple_iterator", data := .fields #[.ref t, .int 0 0] }).push { cls := .type "enumerate", data := .fields #[.none, .bool false, .ref g.objs.size, rawInt 0, .none, .none] }
theorem enumT_meets (t : Addr) (xs : Array Value) (k : Nat) (dd : Option Addr) (sv : Array (Option Value)) :
    Meets (Builtin.«enumerate.__new__» ⟨[.type "enumerate", .ref t], []⟩) (fun _ R s => s.heap.get? t = some { cls := .type "tuple", dict := dd, data := .seq xs k, slots := sv } ∧
      R (.ok (.ret (.ref (s.heap.objs.size + 1)))) { s with heap := enumHeap s.heap t }) :=
  .of_wp fun P1 w1 A1 R1 s1 h1 => by
    obtain ⟨hp, gg, dr, tks, oo⟩ := s1
    obtain ⟨ht, hR⟩ := h1
    have hz : (hp.push { cls := .type "tuple_iterator", data := .fields #[.ref t, .int 0 0] }).objs.size = hp.objs.size + 1 := Heap.size_push ..
    have subE := sub_enumerate
    have isT : Heap.IsTuple (Shared.heap ⟨hp, gg, dr, tks, oo⟩) t xs := ⟨_, ht, rfl, k, rfl⟩
    replace hR : R1 (.ok (.ret (.ref (hp.push { cls := .type "tuple_iterator", data := .fields #[.ref t, .int 0 0] }).objs.size))) ⟨enumHeap hp t, gg, dr, tks, oo⟩ := by rw [hz]; exact hR
    wp_walk using wpAny_loadPart' ht
    refine wpAny_stack_any fun stk => wpAny_pure ?_
    split
    · rename_i cc _ _ _ _ _
      cases (cc == Value.type "enumerate")
      · wp_walk using wpAny_loadPart' ht, wpAny_pyIter_tuple isT
        exact ⟨_, rfl, hR⟩
      · wp_walk using wpAny_loadPart' ht, wpAny_pyIter_tuple isT
        exact ⟨_, rfl, hR⟩
    · wp_walk using wpAny_loadPart' ht, wpAny_pyIter_tuple isT
      exact ⟨_, rfl, hR⟩
theorem enumT_call {P : Program} {w : World} {A : Around} {E : Value → Shared → Prop} {s : Shared} {t : Addr} {xs : Array Value} {Q : Value → Shared → Prop} (hT : s.heap.IsTuple t xs)
    (h : ∀ h', IsEnum h' (s.heap.objs.size + 1) s.heap.objs.size 0 .none → h'.IsTupleIter s.heap.objs.size t 0 → (∀ b o, s.heap.get? b = some o → h'.get? b = some o) → Q (.ref (s.heap.objs.size + 1)) { s with heap := h' }) :
    wpAny (model P w) A (call (.type "enumerate") [.ref t]) Q E s := by
  obtain ⟨⟨cv, dd, dv, sv⟩, ht, hc, k, hd⟩ := hT
  obtain rfl : cv = .type "tuple" := hc
  obtain rfl : dv = .seq xs k := hd
  refine callType_new F.called_enumerate (by decide) (F.typeCall_enumerate_1 _) (F.newCall_enumerate_1 _) (fun ob => F.args_object_init_2 ob _) F.entry_enumerate_new (enumT_meets t xs k dd sv) ⟨ht, ?_⟩
  have hz : (s.heap.push { cls := .type "tuple_iterator", data := .fields #[.ref t, .int 0 0] }).objs.size = s.heap.objs.size + 1 := Heap.size_push ..
  have q1 : IsEnum (enumHeap s.heap t) (s.heap.objs.size + 1) s.heap.objs.size 0 .none := by
    have q := Heap.get?_push_size (s.heap.push { cls := .type "tuple_iterator", data := .fields #[.ref t, .int 0 0] }) (o := { cls := .type "enumerate", data := .fields #[.none, .bool false, .ref s.heap.objs.size, rawInt 0, .none, .none] }) rfl
    rw [hz] at q
    exact q
  exact ⟨⟨_, q1, rfl⟩, h _ q1 ⟨_, Heap.get?_push_of_some _ (Heap.get?_push_size _ rfl), rfl, rfl⟩ fun b o x => Heap.get?_push_of_some _ (Heap.get?_push_of_some _ x)⟩
/-- the tuple at a as it stands, each item in a new pair with its number -/
def IteT (K : PySem.W.Frag) (a : Addr) : It :=
  ⟨fun i H => ∃ (xs : List V) (x : V), SqT K H a xs ∧ xs[i]? = some x, fun i H v H' => ∃ T x, v = .ref T ∧ H T = none ∧ H' = upd H T (.tup [.int (i : Nat), x]) ∧ ∀ xs, SqT K H a xs → xs[i]? = some x, fun i H => ∃ xs : List V, SqT K H a xs ∧ xs.length ≤ i⟩
theorem enumT_turn {P : Program} {w : World} {K : PySem.W.Frag} {elts : List Expr} {kk : Nat} {tpos : Pos} (a e it : Addr) (hai : a ≠ it) (hae : a ≠ e) :
    Turn P w K (.Tuple elts kk tpos) (IteT K a) [e, it] e (fun i h => (∃ old, IsEnum h e it ((i : Nat) : Int) old) ∧ h.IsTupleIter it a i ∧ e ≠ it) where
  mem := List.mem_cons_self
  obj := fun i h st b hb => by
    obtain ⟨⟨old, q1⟩, ⟨o, q2, _, q3⟩, _⟩ := st
    rcases List.mem_cons.mp hb with z | z
    · rw [z]
      exact ⟨_, q1, fun v q => nomatch q⟩
    · rw [List.mem_singleton.mp z]
      exact ⟨o, q2, fun v q => by rw [q3] at q; cases q⟩
  keep := fun i h h' st k => by
    obtain ⟨⟨old, q1⟩, ⟨o, q2, r⟩, q4⟩ := st
    exact ⟨⟨old, k e List.mem_cons_self _ q1⟩, ⟨o, k it (by simp) o q2, r⟩, q4⟩
  item := by
    rintro X rfl rfl rfl hc i pins s σ H E I hf ⟨⟨old, q1⟩, q2, q3⟩ ⟨xs, x, hq, hx⟩
    obtain ⟨its, rv, p, hz⟩ := I.tuple hq
    obtain ⟨u, hu, ru⟩ := rv.get hx
    have hel : e < s.heap.objs.size := Heap.lt_size q1
    have hil : it < s.heap.objs.size := by
      obtain ⟨_, q, _⟩ := q2
      exact Heap.lt_size q
    have tup : s.heap.IsTuple a its.toArray := p
    have hlt : i < its.toArray.size := by
      have z := (List.getElem?_eq_some_iff.mp hu).1
      simpa using z
    have D : Draws X.prog X.w X.A.in1 it [it, a] its.toArray.size (fun i v => its.toArray[i]? = some v) (fun i h => h.IsTupleIter it a i ∧ h.IsTuple a its.toArray) := Draws.tuple (by exact I.ok.hd hc) it a hai its.toArray
    refine wpAny_pyNext_enum_itemD D q1 ⟨q2, tup⟩ hlt q3 (by simp [q3, hae.symm]) fun y h' tk hP ho st' hT hsz hk => ?_
    obtain rfl : y = u := by
      have z : its.toArray[i]? = some u := by simpa using hu
      exact Option.some.inj (hP.symm.trans z)
    refine ⟨_, rfl, wpAny_letOwnedTupleGo_enum (s := { s with heap := h', toks := tk + 1 }) ho fun h2 q5 sb => ?_⟩
    have hT2 : h2.get? s.heap.objs.size = some { cls := .type "tuple", data := .seq #[.int i tk, y] } := (sb.2 _ (Nat.ne_of_gt hel)).trans hT
    have new : ObjOk X.prog X.w (upd H s.heap.objs.size (.tup [.int (i : Nat), x])) h2 s.heap.objs.size (.tup [.int (i : Nat), x]) :=
      ⟨by show 2 ≤ sizeLine; decide, [.int i tk, y], .cons ⟨_, rfl⟩ (.cons ru .nil), ⟨_, hT2, rfl, _, rfl⟩⟩
    have I2 : Inv X pins σ (upd H s.heap.objs.size (.tup [.int (i : Nat), x])) { s with heap := h2, toks := tk + 1 } :=
      I.turnedNew (ch := [e, it]) (fun b ob hb q => (sb.2 b (fun z => hb (by simp [z]))).trans (hk b ob (fun z => hb (by simp [z])) (fun z => hb (by simp [z])) q)) hf (Nat.le_refl _) new
    refine ⟨.ref s.heap.objs.size, _, I2, rfl, ⟨_, x, rfl, I.hok.fresh (Nat.le_refl _), rfl, fun ys hy => by rw [I.tuple_inj hy hq]; exact hx⟩, ⟨⟨y, ?_⟩, ?_, q3⟩, fun b hb => ?_⟩
    · rw [show ((i + 1 : Nat) : Int) = (i : Int) + 1 by omega]
      exact q5
    · obtain ⟨o, z, r⟩ := st'.1
      exact ⟨o, (sb.2 it (Ne.symm q3)).trans z, r⟩
    · have hb2 : b < s.heap.objs.size := by
        rcases List.mem_cons.mp hb with z | z
        · rw [z]; exact hel
        · rw [List.mem_singleton.mp z]; exact hil
      rw [upd_ne (Nat.ne_of_lt hb2)]
      exact (hf b hb).1
  done := by
    rintro X rfl rfl rfl hc i pins s σ H E I hf ⟨⟨old, q1⟩, q2, q3⟩ ⟨xs, hq, hx⟩
    obtain ⟨its, rv, p, hz⟩ := I.tuple hq
    obtain ⟨f0, f1, f2, f3, f4, f5⟩ := hf it (by simp)
    have hl := rv.length
    have tup : s.heap.IsTuple a its.toArray := p
    have hT : s.TypeIs (.ref e) "enumerate" := ⟨_, q1, rfl⟩
    unfold pyNext
    refine wpAny_bind (wpAny_attempt (wpAny_callSpecial?_slot (name := Str.ofString "__next__") hT F.slot_enumerate_next (wpAny_call_entry F.slot_enumerate_next hT F.entry_enumerate_next ?_ (F.args_enumerate_next_1 _))))
    show wpAny _ _ (field (.ref e) 2 >>= _) _ _ _
    refine wpAny_bind (wpAny_field q1 rfl (x := .ref it) rfl ?_)
    refine wpAny_bind (wpAny_nextOf_tuple_end (by exact I.ok.hd hc) q2 tup (by simp; omega) fun h' x eb hx' => ?_)
    obtain ⟨o, ho, hc'⟩ := hx'
    refine wpAny_bind (wpAny_isInstance (T := "StopIteration") (b := true) ⟨o, ho, hc'⟩ isSubtype_stop ?_)
    exact wpAny_pure ⟨rfl, I.turned (t' := s.toks) (fun b o hb q => eb b o hb q) f0 f1 f3 f4 f5⟩
  self := fun A i s Q E st h => wpAny_pyIter_enum st.1.choose_spec h
def iEnumT (K : PySem.W.Frag) (ta : TA) : TI := fun σ H R => ta σ H fun vs H1 => ∃ a xs, vs = [.ref a] ∧ H1 a = some (.tup xs) ∧ R (IteT K a) H1
theorem pi_enumT {X : Cx} {e : Expr} {ta : TA} {p pos tpos : Pos} {elts : List Expr} {kk : Nat} (hg : Gl X "enumerate") (hm : X.mg "enumerate" = none) (ha : PA X [e] ta) (hs : starEach [e] X.env = [(false, eval e X.env)] := by rfl) :
    PI X (.Tuple elts kk tpos) (.Call (.Name "enumerate" p) [e] [] pos) (iEnumT X.K ta) := by
  refine ⟨fun pins s σ H R I h => ?_⟩
  refine Call_ (ld_blt I hg hm boot_enumerate (PyProof.Rows.callWith_type1 (thn (ha.run pos pins s σ H _ I h) fun us s1 ⟨vs, H1, I1, r1, q1⟩ => ?_) hs rfl))
  obtain ⟨a, xs, rfl, hq, q⟩ := q1
  cases r1 with
  | cons r rr =>
    cases rr
    cases r
    obtain ⟨its, rv, p2, hz⟩ := I1.tuple (.inl (.inl hq))
    have tup : s1.heap.IsTuple a its.toArray := p2
    have hal : a < s1.heap.objs.size := p2.lt
    refine enumT_call tup fun h' q1 q2 hk => wpAny_pyIter_enum q1 ?_
    have I2 : Inv X pins σ H1 { s1 with heap := h' } := I1.kept (t' := s1.toks) hk
    refine ⟨s1.heap.objs.size + 1, [s1.heap.objs.size + 1, s1.heap.objs.size], _, _, H1, rfl, I2, enumT_turn a (s1.heap.objs.size + 1) s1.heap.objs.size (Nat.ne_of_lt hal) (Nat.ne_of_lt (Nat.lt_succ_of_lt hal)), ⟨⟨.none, q1⟩, q2, Nat.succ_ne_self _⟩, fun b hb => ?_, q⟩
    have hle : s1.heap.objs.size ≤ b := by
      rcases List.mem_cons.mp hb with z | z
      · rw [z]; exact Nat.le_add_right _ _
      · rw [List.mem_singleton.mp z]; exact Nat.le_refl _
    exact I1.fpOk hle (I1.hok.fresh hle)
end
/-! ### a, *b = xs; a call of a class that a local name holds -/
section
open PyProof.Rows PySem.Spec
theorem star_run {P : Program} {w : World} {A : Around} {E : Value → Shared → Prop} {s : Shared} {l : Addr} {items : Array Value} {Q : List Value → Shared → Prop} (hl : s.heap.IsList l items) (hh : A.handled = none) (hn : 1 ≤ items.size) (hz : items.size ≤ 16384)
    (h : ∀ D h' tk, s.heap.get? D = none → (∀ b o, s.heap.get? b = some o → h'.get? b = some o) → h'.get? D = some (seqObj "list" (items.toList.drop 1).toArray 0) → Q (items.toList.take 1 ++ [.ref D]) { s with heap := h', toks := tk }) : wpAny (model P w) A (unpackItems (.ref l) 2 (some 1)) Q E s := by
  have hlt : l ≠ s.heap.objs.size := by obtain ⟨o, ho, _⟩ := hl; exact Nat.ne_of_lt (Heap.lt_size ho)
  unfold unpackItems
  refine wpAny_bind ?_
  unfold notIterableAtAll
  refine wpAny_bind (wpAny_specialOf hl.typeIs slot_list_iter.lookup ?_)
  refine wpAny_pure ?_
  simp only [Bool.false_eq_true, if_false]
  refine wpAny_bind (wpAny_holding (wpAny_pyIter_list hl ?_))
  refine wpAny_bind (wpAny_holding (PySem.W.kun_draw hlt 1 0 _ _ ⟨_, Heap.get?_push_size _ rfl, rfl, rfl⟩ (hl.push _) (by omega) fun h₁ hit₁ hs₁ => ?_))
  have hl₁ : h₁.IsList l items := (hl.push _).extBut hs₁.extBut hlt
  rw [Nat.zero_add] at hit₁
  have hit₁' := hit₁
  obtain ⟨oi, hoi, _⟩ := hit₁'
  have hl₁' := hl₁
  obtain ⟨ol, hol, _⟩ := hl₁'
  rw [List.drop_zero]
  have hfl : (items.toList.take 1).length = 1 := by rw [List.length_take, Array.length_toList]; omega
  rw [if_neg (show ¬ ((items.toList.take 1).length < 1) by rw [hfl]; omega)]
  refine wpAny_bind (wpAny_holding (PySem.W.kun_collect (s := { s with heap := h₁ }) (T := "list_iterator") (.inr (.inr (.inl rfl))) (Walks.list (A := A.in1) hh s.heap.objs.size l hlt items) (fun j u st => st.1.typeIs) (k := 1) (by omega) ⟨hit₁, hl₁⟩ (Heap.lt_size hoi) (Heap.lt_size hol) (fun h₂ tk hk => ?_) (by rw [sizeLine_eq]; omega)))
  have hrl : (items.toList.drop 1).length = items.size - 1 := by rw [List.length_drop, Array.length_toList]
  show wpAny _ _ (if (items.toList.drop 1).length < 2 - 1 - 1 then _ else _) _ _ _
  rw [if_neg (by omega)]
  show wpAny _ _ (newList ((items.toList.drop 1).take ((items.toList.drop 1).length - (2 - 1 - 1))) >>= fun d => pure (items.toList.take 1 ++ [d] ++ (items.toList.drop 1).drop ((items.toList.drop 1).length - (2 - 1 - 1)))) _ _ _
  rw [show (items.toList.drop 1).length - (2 - 1 - 1) = (items.toList.drop 1).length by omega, List.take_length, List.drop_length]
  have he : ∀ b o, s.heap.get? b = some o → h₂.get? b = some o := fun b o e => hk b o (Nat.ne_of_lt (Heap.lt_size e)) (hs₁.extBut b o (Nat.ne_of_lt (Heap.lt_size e)) (Heap.get?_push_of_some _ e))
  have hsz : s.heap.get? h₂.objs.size = none := by
    cases e : s.heap.get? h₂.objs.size with
    | none => rfl
    | some o => exact absurd (Heap.lt_size (he _ _ e)) (Nat.lt_irrefl _)
  refine wpAny_bind (wpAny_newList (wpAny_pure (by rw [List.append_nil]; exact h _ _ tk hsz (fun b o e => Heap.get?_push_of_some _ (he b o e)) (Heap.get?_push_size _ rfl))) (by rw [hrl, sizeLine_eq]; omega))
theorem objOk_some {P : Program} {w : World} {H : Hp} {h : Heap} {a : Addr} {o : HO} (x : ObjOk P w H h a o) : ∃ u, h.get? a = some u := by
  cases o with
  | lst xs => obtain ⟨_, _, _, _, e⟩ := x; exact ⟨_, e⟩
  | tup xs => obtain ⟨_, _, _, _, e, _⟩ := x; exact ⟨_, e⟩
  | dK kvs => obtain ⟨_, _, _, _, o, _, _, e, _⟩ := x; exact ⟨_, e⟩
  | dT kvs => obtain ⟨_, _, _, _, o, _, _, e, _⟩ := x; exact ⟨_, e⟩
  | set S n => obtain ⟨o, _, _, _, e, _⟩ := x; exact ⟨_, e⟩
  | ins C dx fs => obtain ⟨_, _, _, e, _⟩ := x; exact ⟨_, e⟩
  | own y => obtain ⟨_, e⟩ := x; exact ⟨_, e⟩
  | xd fs => obtain ⟨_, ⟨_, _, _, e, _⟩, _⟩ := x; exact ⟨_, e⟩
  | rng lo hi => obtain ⟨_, _, _, e⟩ := x; exact ⟨_, e⟩
  | frz ob u => obtain ⟨e, _⟩ := x; exact ⟨_, e⟩
  | tbl ps => exact ⟨_, show h.get? a = some _ from x⟩
  | met f y => exact ⟨_, show h.get? a = some _ from x⟩
  | ext φ => obtain ⟨_, ⟨_, e⟩, _⟩ := x; exact ⟨_, e⟩
theorem hok_free {P : Program} {w : World} {H : Hp} {h : Heap} {a : Addr} (x : HOk P w H h) (e : h.get? a = none) : H a = none := by
  cases q : H a with
  | none => rfl
  | some o =>
    obtain ⟨u, hu⟩ := objOk_some (x a o q)
    rw [e] at hu
    cases hu
theorem un_laid {fs ex : List Addr} {H : Hp} {a : Addr} {o : HO} {h h' : Heap} (k : ∀ b u, h.get? b = some u → h'.get? b = some u) (hp : h.get? a = none) (hn : H a = none) : Un fs ex H (L2.upd H a o) h h' where
  keep := fun b u q _ _ _ => k b u q
  slot := fun b u q _ _ _ => ⟨u.slots, k b u q⟩
  free := fun b u q n _ => by rw [upd_ne (fun z => by rw [z, hp] at q; cases q)]; exact n
  there := fun b u q _ => ⟨u, k b u q⟩
  tups := fun b xs q => by rw [upd_ne (ne_of_none q hn)]; exact q
  frzs := fun b u xs q => by rw [upd_ne (ne_of_none q hn)]; exact q
  tbls := fun b ps q => ⟨#[], by rw [upd_ne (ne_of_none q hn), q]; simp⟩
theorem hok_laid {P : Program} {w : World} {H : Hp} {a : Addr} {o : HO} {h h' : Heap} (x : HOk P w H h) (k : ∀ b u, h.get? b = some u → h'.get? b = some u) (hn : H a = none) (new : ObjOk P w (L2.upd H a o) h' a o) : HOk P w (L2.upd H a o) h' := fun b u e => by
  by_cases hb : b = a
  · subst hb; rw [upd_same] at e; cases e; exact new
  · rw [upd_ne hb] at e
    exact (x b u e).stay (fun c v _ q => k c v q) (fun c q => by rw [upd_ne (ne_of_none q hn)]; exact q) fun c xs q => by rw [upd_ne (ne_of_none q hn)]; exact q
/-- a, *b = xs -/
def gStar1 (K : PySem.W.Frag) (t : TGs) : TG := fun v σ H Q => ∃ a x xs, v = .ref a ∧ SqL K H a (x :: xs) ∧ xs.length ≤ 1000 ∧ ∀ D, H D = none → t [x, .ref D] σ (L2.upd H D (.lst xs)) Q
theorem pgs_star {X : Cx} {e : Expr} {es : List Expr} {p : Pos} {t : TG} {u : TGs} (h1 : PG X e t) (h2 : PGs X es u)
    (hs : (assignEach (.Starred e p :: es) X.env).map (·.2) = assign e X.env :: (assignEach es X.env).map (·.2) := by rfl) : PGs X (.Starred e p :: es) (gCons t u) := by
  refine ⟨fun pins s σ H vs us Q I r h => ?_⟩
  obtain ⟨v, vr, e1, h⟩ := h
  subst e1
  cases r with
  | cons r rr =>
    rw [hs]
    refine assignInOrder_cons (thn (h1.run pins s σ H _ _ _ I r h) fun _ s1 ⟨σ1, H1, I1, q1⟩ => ?_)
    exact h2.run pins s1 σ1 H1 _ _ Q I1 rr q1
theorem pg_star1 {X : Cx} {es : List Expr} {k : Nat} {pos : Pos} {t : TGs} (hc : X.calm = true) (h : PGs X es t)
    (hn : (assignEach es X.env).length = 2 := by rfl) (hst : (assignEach es X.env).findIdx? (·.1) = some 1 := by rfl) : PG X (.Tuple es k pos) (gStar1 X.K t) := by
  refine ⟨fun pins s σ H v u Q I r hw => ?_⟩
  obtain ⟨a, x, xs, e1, hq, hl, hw⟩ := hw
  subst e1
  cases r
  obtain ⟨its, rv, pl, hz⟩ := I.list hq
  have hlen := rv.length
  rw [List.length_cons] at hlen
  rw [PyProof.Rows.assign_Tuple]
  refine wpAny_bind (wpAny_standAt ?_)
  unfold unpack
  rw [hn, hst]
  refine wpAny_bind (wpAny_holding (star_run pl.isList (I.ok.hd hc) (by rw [List.size_toArray]; omega) (by rw [List.size_toArray]; omega) fun D h' tk hD keep hl' => ?_))
  cases rv with
  | cons rx rxs =>
    rename_i ux uxs
    have hfr := hok_free I.hok hD
    have I1 : Inv X pins σ (L2.upd H D (.lst xs)) { s with heap := h', toks := tk } := I.un (un_laid keep hD hfr) (hok_laid I.hok keep hfr (show ObjOk X.prog X.w _ h' D (.lst xs) from ⟨by rw [sizeLine_eq]; omega, uxs, 0, rxs, hl'⟩))
    exact h.run pins _ σ _ _ _ Q I1 (.cons rx (.cons (show RelV (V.ref D) (Value.ref D) from rfl) .nil)) (hw D hfr)
/-- cls(e, ..), cls a local name -/
def tMakeL (i : Nat) (C : Addr) (sp : Sp) (dvs : List V) (E : XK) (t : TA) : TE := fun σ H Q => σ[i]? = some (some (.ref C)) ∧ tMake C sp dvs E t σ H Q
theorem pe_makeL {X : Cx} {CX : CXT} {k i : Nat} {C f : Addr} {fd : FuncData} {ps : List Str} {sp : Sp} {dvs : List V} {ds : List Value} {E : XK} {x : Str} {p pos : Pos} {e : Expr} {es : List Expr} {t : TA}
    (M : Mk X.K C f) (F : FnOk X.prog X.w X.K X.mg X.base CX k f fd ps sp) (hr : Room (k + 1) X.A) (hN : X.N[i]? = some x) (hv : Vis X.env.scope x) (hb : Binds X.K fd ps ds) (hd : Vals dvs ds) (hx : Passes CX X E)
    (ha : PA X (e :: es) t) (hdb : (x == ("__debug__" : Str)) = false := by decide) (hcd : (x == ("__classdict__" : Str)) = false := by decide) (he : starEach (e :: es) X.env = (false, eval e X.env) :: starEach es X.env := by rfl) (hpl : (backTo pos (starEach es X.env)).any (·.1) = false := by rfl) :
    PE X (.Call (.Name x p) (e :: es) [] pos) (tMakeL i C sp dvs E t) := by
  refine ⟨fun pins s σ H Q I h => ?_⟩
  obtain ⟨hs, ht⟩ := h
  refine wpAny_Call_Name_kw (thn ((pe_var (pos := p) hN hv hdb hcd).run pins s σ H (fun v H1 => v = .ref C ∧ H1 = H) I ⟨.ref C, hs, rfl, rfl⟩) fun u s1 ⟨v, H1, I1, r1, q1⟩ => ?_)
  obtain ⟨rfl, rfl⟩ := q1
  cases r1
  refine PySem.W.callWith_K (h₀ := X.base) I.ok.mod.kin M.kp (thn (ha.run pos pins s1 σ _ _ I1 ht) fun us s2 ⟨vs, H2, I2, r, q⟩ => ⟨I2.kIn, ?_⟩) he hpl
  exact run_make M F hr hb hd hx I2 r q
end
/-! ### min and sorted of data, nested to any depth -/
section
open PySem.Spec PyProof.Rows
open PySem.W (alike alikeAll dataLt minD AlikeAll AllAlike Sortable EachIs sorted_data min_list_data readsAll_atA alike_unique dataLe)
/-- min(xs), xs a list of data that are alike -/
def rMinD (K : PySem.W.Frag) : List V → Hp → VK → Prop := fun vs H Q => ∃ (a : Addr) (xs : List V) (d : PyData) (ds : List PyData), vs = [V.ref a] ∧ SqL K H a xs ∧ DpAll K H xs (d :: ds) ∧ AlikeAll (d :: ds) ∧ PyData.depthAll (d :: ds) ≤ 60 ∧
  ∀ (i : Nat) x, xs[i]? = some x → (d :: ds)[i]? = some (minD d ds) → Q x H
theorem minD_mem : ∀ (ds : List PyData) (d : PyData), minD d ds ∈ d :: ds
  | [], d => List.mem_cons_self
  | e :: r, d => by
    show minD (if dataLt e d = true then e else d) r ∈ _
    have h := minD_mem r (if dataLt e d = true then e else d)
    rcases List.mem_cons.mp h with z | z
    · rw [z]
      split <;> simp
    · exact List.mem_cons_of_mem _ (List.mem_cons_of_mem _ z)
theorem cr_minD {X : Cx} (hc : X.calm = true) (hu : X.A.units + 65 < cLine) : CallR X (.builtin "min") (rMinD X.K) := by
  intro pins s σ H vs us Q I r h
  obtain ⟨a, xs, d, ds, rfl, hs, hd, ha, hdp, q⟩ := h
  obtain ⟨its, rv, hl, _⟩ := I.list hs
  rw [Vals.ref1 r]
  obtain ⟨as, hr⟩ := Dp.readsAll I (d :: ds) xs its hd rv
  refine min_list_data (I.ok.hd hc) hl.isList hr ha (by omega) fun i v h' tk bs hi rd hk => ?_
  have hi2 : its[i]? = some v := by simpa using hi
  have hil : i < xs.length := by
    rw [rv.length]
    exact (List.getElem?_eq_some_iff.mp hi2).1
  obtain ⟨u, hu2, ru⟩ := rv.get (List.getElem?_eq_getElem hil)
  obtain rfl : u = v := Option.some.inj (hu2.symm.trans hi2)
  obtain ⟨cs, rc, lt, mem, _⟩ := readsAll_atA hr i u hi
  have rd' := Reads.keeps hk rc
  have e : (d :: ds).getD i .none = minD d ds := alike_unique _ _ _ _ _ (ha.1 _ mem _ (minD_mem ds d)) rd' rd
  refine ⟨_, H, I.kept (t' := tk) hk, ru, q i _ (List.getElem?_eq_getElem hil) ?_⟩
  rw [← e, List.getD_eq_getElem?_getD, List.getElem?_eq_getElem lt]
  rfl
/-- sorted(xs), xs a list of data that are alike: a new list; R: what is known of each item -/
def rSortedD {β : Type} (enc : β → PyData) (K : PySem.W.Frag) : List V → Hp → VK → Prop := fun vs H Q => ∃ (a : Addr) (xs : List V) (bs : List β) (R : V → β → Prop), vs = [V.ref a] ∧ SqL K H a xs ∧ Paired R xs bs ∧ DpAll K H xs (bs.map enc) ∧ AllAlike (bs.map enc) ∧ Sortable (bs.map enc) ∧ (∀ b ∈ bs, (enc b).depth ≤ 60) ∧
  ∀ ys p, Paired R ys (bs.mergeSort (dataLe false enc)) → H p = none → Q (.ref p) (L2.upd H p (.lst ys))
theorem each_pairs {β : Type} {R : Value → β → Prop} {F : V → β → Prop} (h : ∀ v b, R v b → ∃ x, RelV x v ∧ F x b) : ∀ {out : List Value} {bs : List β}, EachIs R out bs → ∃ ys, Vals ys out ∧ Paired F ys bs
  | _, _, .nil => ⟨[], .nil, .nil⟩
  | _, _, .cons r t => by
    obtain ⟨ys, h1, h2⟩ := each_pairs h t
    obtain ⟨x, h3, h4⟩ := h _ _ r
    exact ⟨x :: ys, .cons h3 h1, .cons h4 h2⟩
theorem each_of {β : Type} {K : PySem.W.Frag} {H : Hp} {enc : β → PyData} {R : V → β → Prop} {R' : Value → β → Prop} : ∀ {xs : List V} {us : List Value} {bs : List β}, Vals xs us → Paired R xs bs → DpAll K H xs (bs.map enc) → (∀ x u b, RelV x u → R x b → Dp K H x (enc b) → R' u b) → EachIs R' us bs
  | _, _, [], rv, hr, hd, _ => by
    cases hd
    cases rv
    exact .nil
  | _, _, b :: bs, rv, hr, hd, h => by
    cases hd with
    | cons q t =>
      cases rv with
      | cons r rt =>
        cases hr with
        | cons p pt => exact .cons (h _ _ _ r p q) (each_of rt pt t h)
theorem cr_sortedD {β : Type} {X : Cx} (enc : β → PyData) (hu : X.A.units + 65 < cLine) : CallR X (.builtin "sorted") (rSortedD enc X.K) := by
  intro pins s σ H vs us Q I r h
  obtain ⟨a, xs, bs, R, rfl, hs, hR, hd, hal, hk, hdp, q⟩ := h
  obtain ⟨its, rv, hl, hz⟩ := I.list hs
  rw [Vals.ref1 r]
  have e1 : EachIs (fun v b => ∃ x, RelV x v ∧ R x b) its bs := each_of rv hR hd fun x u b hr hx _ => ⟨x, hr, hx⟩
  have e2 : EachIs (fun v b => ∃ as, Reads s.heap v (enc b) as) its bs := each_of rv hR hd fun x u b hr _ hd => Dp.reads I _ _ _ hd hr
  have hl2 := e1.length
  refine sorted_data hl.isList e1 e2 hal hk (by rw [← hl2, ← rv.length]; exact hz) (fun b hb => by have := hdp b hb; omega) fun out ho eo => ?_
  obtain ⟨ys, h1, h2⟩ := each_pairs (F := R) (fun v b ⟨x, a1, a2⟩ => ⟨x, a1, a2⟩) eo
  obtain ⟨ep, he'⟩ := PyProof.Rows.sortedAll_at s.heap its out.toArray
  have hlen : ys.length ≤ sizeLine := by
    rw [h1.length, ho, ← hl2, ← rv.length]
    exact hz
  exact ⟨.ref _, L2.upd H (s.heap.objs.size + 1) (.lst ys), I.laid (t' := s.toks) (fun _ _ => PyProof.Rows.sortedAll_old) (Nat.le_succ _) ⟨hlen, out, ep, h1, he'⟩, rfl, q ys _ h2 (I.hok.fresh (Nat.le_succ _))⟩
end
/-! ### xs.count(x), x data of any depth -/
section
open PySem.Spec PyProof.Rows
def rCntD (K : PySem.W.Frag) : V → List V → Hp → VK → Prop := fun x xs H Q => ∃ (a : Addr) (ys : List V) (y : V) (d : PyData) (ds : List PyData), x = V.ref a ∧ xs = [y] ∧ SqL K H a ys ∧ DpAll K H ys ds ∧ Dp K H y d ∧ PyData.plainAll ds = true ∧ d.plain = true ∧ d.depth ≤ 60 ∧ Q (.int ((ds.countP fun z => PyData.eqv z d : Nat) : Int)) H
theorem mt_countD {X : Cx} (hu : X.A.units + 65 < cLine) : MtR X "list.count" (rCntD X.K) := by
  intro pins s σ H x xs v us Q I rx rxs h
  obtain ⟨a, ys, y, d, ds, rfl, rfl, hl, hds, hd, p1, p2, hdp, q⟩ := h
  cases rx
  cases rxs with
  | cons ry rt =>
    rename_i uy ut
    cases rt
    obtain ⟨bs, r1⟩ := Dp.reads I d y uy hd ry
    obtain ⟨its, rv, hL, _⟩ := I.list hl
    obtain ⟨as, hr⟩ := Dp.readsAll I ds ys its hds rv
    refine PySem.SeqAt.count_list_data hL.isList hr r1 p1 p2 (by omega) ⟨.int _, H, I.tok _, ⟨_, rfl⟩, q⟩
end
/-! ### max(xs, default=d), xs a list of ints -/
section
open PySem.Spec PyProof.Rows
open PySem.W (alike alikeAll dataLt maxD AlikeAll max_list_default)
def rMaxDef (K : PySem.W.Frag) : List V → List V → Hp → VK → Prop := fun vs zs H Q => ∃ (a : Addr) (ns : List Int) (d : V), vs = [V.ref a] ∧ zs = [d] ∧ SqL K H a (ns.map V.int) ∧ (ns = [] → Q d H) ∧ ∀ m, m ∈ ns → (∀ y, y ∈ ns → y ≤ m) → Q (.int m) H
def maxI (x : Int) (xs : List Int) : Int := xs.foldl (fun a y => if a < y then y else a) x
theorem maxI_spec : ∀ (xs : List Int) (x : Int), maxI x xs ∈ x :: xs ∧ ∀ y ∈ x :: xs, y ≤ maxI x xs
  | [], x => ⟨List.mem_cons_self, fun y hy => by rw [List.mem_singleton.mp hy]; exact Int.le_refl _⟩
  | z :: r, x => by
    obtain ⟨h1, h2⟩ := maxI_spec r (if x < z then z else x)
    have e : maxI x (z :: r) = maxI (if x < z then z else x) r := rfl
    rw [e]
    have h3 := h2 _ List.mem_cons_self
    refine ⟨?_, fun y hy => ?_⟩
    · rcases List.mem_cons.mp h1 with q | q
      · rw [q]
        split <;> simp
      · exact List.mem_cons_of_mem _ (List.mem_cons_of_mem _ q)
    · rcases List.mem_cons.mp hy with q | q
      · rw [q]
        split at h3 <;> rename_i c
        · rw [if_pos c]; omega
        · rw [if_neg c]; omega
      · rcases List.mem_cons.mp q with q | q
        · rw [q]
          split at h3 <;> rename_i c
          · rw [if_pos c]; omega
          · rw [if_neg c]; omega
        · exact h2 y (List.mem_cons_of_mem _ q)
theorem maxD_int : ∀ (xs : List Int) (x : Int), maxD (.int x) (xs.map PyData.int) = .int (maxI x xs)
  | [], x => rfl
  | y :: ys, x => by
    show maxD (if dataLt (.int x) (.int y) = true then .int y else .int x) (ys.map PyData.int) = .int (maxI (if x < y then y else x) ys)
    rw [PySem.W.dataLt_int]
    by_cases c : x < y
    · rw [if_pos (decide_eq_true c), if_pos c]
      exact maxD_int ys y
    · rw [if_neg (by rw [decide_eq_false c]; exact Bool.false_ne_true), if_neg c]
      exact maxD_int ys x
theorem ints_dp {K : PySem.W.Frag} {H : Hp} : ∀ ns : List Int, DpAll K H (ns.map V.int) (ns.map PyData.int)
  | [] => .nil
  | n :: ns => .cons (.int _) (ints_dp ns)
theorem ints_alike (ns : List Int) : AlikeAll (ns.map PyData.int) := by
  refine ⟨fun x hx y hy => ?_, fun x hx => ?_⟩
  · obtain ⟨s, _, rfl⟩ := List.mem_map.mp hx
    obtain ⟨t, _, rfl⟩ := List.mem_map.mp hy
    simp [alike]
  · obtain ⟨s, _, rfl⟩ := List.mem_map.mp hx
    intro e
    cases e
theorem ints_depth : ∀ ns : List Int, PyData.depthAll (ns.map PyData.int) = 0
  | [] => by simp [PyData.depthAll]
  | n :: ns => by simp [PyData.depthAll, PyData.depth, ints_depth ns]
theorem cr_maxDef {X : Cx} (hc : X.calm = true) (hu : X.A.units + 65 < cLine) : CallRK X (.builtin "max") [Str.ofString "default"] (rMaxDef X.K) := by
  intro pins s σ H vs zs us ws Q I r rz h
  obtain ⟨a, ns, d, rfl, rfl, hs, q0, q⟩ := h
  obtain ⟨its, rv, hl, _⟩ := I.list hs
  rw [Vals.ref1 r]
  cases rz with
  | cons rd rt =>
    cases rt
    rename_i dv
    obtain ⟨as, hr⟩ := Dp.readsAll I (ns.map PyData.int) (ns.map V.int) its (ints_dp ns) rv
    refine max_list_default (I.ok.hd hc) hl.isList hr (ints_alike ns) (by rw [ints_depth]; omega) (fun e h' tk hk => ?_) fun y ys i v h' tk bs e hi rd' hk => ?_
    · exact ⟨d, H, I.kept (t' := tk) hk, rd, q0 (List.map_eq_nil_iff.mp e)⟩
    · cases ns with
      | nil => cases e
      | cons n ns =>
        rw [List.map_cons] at e
        injection e with e1 e2
        subst e1
        subst e2
        rw [maxD_int] at rd'
        obtain ⟨m1, m2⟩ := maxI_spec ns n
        have hi2 : its[i]? = some v := by simpa using hi
        have hil : i < (List.map V.int (n :: ns)).length := by
          rw [rv.length]
          exact (List.getElem?_eq_some_iff.mp hi2).1
        obtain ⟨u, hu2, ru⟩ := rv.get (List.getElem?_eq_getElem hil)
        obtain rfl : u = v := Option.some.inj (hu2.symm.trans hi2)
        cases rd'
        exact ⟨.int _, H, I.kept (t' := tk) hk, ⟨_, rfl⟩, q _ m1 m2⟩
end
/-! ### d.values(), list(d.values()) of a dict whose keys are tuples -/
section
open PySem.Spec PyProof.Rows
/-- the view d.values() at p -/
def valsO (p d : Addr) : HO := .ext fun h => h.IsValuesView p d
theorem valsO_ok {P : Program} {w : World} {H : Hp} {h : Heap} {p d : Addr} (e : h.get? p = some { cls := .type "dict_values", data := .fields #[.ref d] }) : ObjOk P w H h p (valsO p d) :=
  ⟨⟨_, e, rfl, rfl⟩, ⟨_, e⟩, fun h1 h2 x k => let ⟨o, ho, r⟩ := x; ⟨o, k o ho, r⟩⟩
variable {X : Cx}
def rValuesT : V → List V → Hp → VK → Prop := fun x xs H Q => ∃ (a : Addr) (kvs : List (List L2.Key × V)), x = .ref a ∧ xs = [] ∧ H a = some (.dT kvs) ∧ ∀ p, H p = none → Q (.ref p) (L2.upd H p (valsO p a))
theorem mt_valuesT : MtR X "dict.values" rValuesT := by
  intro pins s σ H x xs v us Q I rx rxs h
  obtain ⟨a, kvs, rfl, rfl, ha, q⟩ := h
  cases rx
  cases rxs
  obtain ⟨z, hd, xs', rel, o, es, ep, ho, hx, hdat, _⟩ := dt_of I.hok ha
  have raw : s.heap.DictRaw a es ep := ⟨o, ho, hx, hdat⟩
  refine call_meetsIn PySem.F.slot_dict_values raw.typeIs PySem.F.entry_dict_values (PySem.F.args_dict_values_1 _) (PySem.meets_dict_values_raw a hd) ⟨⟨es, ep, raw⟩, ?_⟩
  have hf : H s.heap.objs.size = none := I.hok.fresh (Nat.le_refl _)
  exact ⟨.ref s.heap.objs.size, L2.upd H s.heap.objs.size (valsO s.heap.objs.size a), I.laid (t' := s.toks) (fun b u e => Heap.get?_push_of_some _ e) (Nat.le_refl _) (valsO_ok (Heap.get?_push_size _ rfl)), rfl, q _ hf⟩
theorem kt_vals {H : Hp} : ∀ {kvs : List (List L2.Key × V)} {xs : List (List L2.Key × Addr × Value)}, KT H kvs xs → Vals (kvs.map (·.2)) (xs.map fun x => x.2.2)
  | _, _, .nil => .nil
  | _, _, .cons h t => .cons h.2.2 (kt_vals t)
theorem call_list_valuesT (hc : X.calm = true) : CallR X (.type "list") (fun xs H Q => ∃ (v d : Addr) (kvs : List (List L2.Key × V)), xs = [V.ref v] ∧ H v = some (valsO v d) ∧ H d = some (.dT kvs) ∧ ∀ p, H p = none → Q (.ref p) (L2.upd H p (.lst (kvs.map (·.2))))) := by
  intro pins s σ H xs us Q I r h
  obtain ⟨v, d, kvs, rfl, hv, hd, q⟩ := h
  obtain ⟨u, rfl, rx⟩ := r.one
  cases rx
  obtain ⟨z, hs, ks, pr, o, es, ep, ho, hx, hdt, he, hn⟩ := dt_of I.hok hd
  have hvv : s.heap.IsValuesView v d := (show ObjOk X.prog X.w H s.heap v (valsO v d) from I.hok v _ hv).1
  have raw : s.heap.DictRaw d es ep := ⟨o, ho, hx, hdt⟩
  have l1 : es.size = ks.length := size_of_entries he
  have l2 : kvs.length = ks.length := Paired.length pr
  refine PySem.W.kdl_call PySem.KdlSrc.rawValues (I.ok.hd hc) ⟨hvv, raw⟩ (by omega) fun h' tk acc' c' kp e it => ?_
  have ea : acc'.toList = ks.map fun x => x.2.2 := by
    have hl : acc'.toList.length = ks.length := by rw [Array.length_toList, it.1]; exact l1
    apply List.ext_getElem?
    intro j
    rw [List.getElem?_map]
    cases hj : acc'.toList[j]? with
    | none =>
      have h1 := List.getElem?_eq_none_iff.mp hj
      rw [List.getElem?_eq_none (by omega)]
      all_goals rfl
    | some v =>
      obtain ⟨hi, hv⟩ := it.2 j v (by rw [← Array.getElem?_toList]; exact hj)
      have qe := entry_at he j
      rw [Array.getElem?_eq_getElem hi] at qe
      cases hb : ks[j]? with
      | none =>
        rw [hb] at qe
        exact nomatch (show some es[j] = none from qe)
      | some b =>
        rw [hb] at qe
        have e2 : es[j] = entryOfKey (tupleKind (mixKind X.prog X.w)) b := Option.some.inj qe
        rw [hv, e2]
        all_goals rfl
  have rv : Vals (kvs.map (·.2)) acc'.toList := by
    rw [ea]
    exact kt_vals pr
  have hz : (kvs.map (·.2)).length ≤ sizeLine := by rw [List.length_map]; omega
  refine ⟨.ref s.heap.objs.size, _, I.laid (t' := tk) (o := .lst (kvs.map (·.2))) kp (Nat.le_refl _) ?_, rfl, q _ (I.hok.fresh (Nat.le_refl _))⟩
  exact ⟨hz, acc'.toList, c', rv, by rw [Array.toArray_toList]; exact e⟩
end
/-! ### xs * k of a tuple, k 0 or 1 -/
section
open PySem.Spec PyProof.Rows
theorem tuple_mul1 (l : Addr) (items : Array Value) (n : Nat) (dd : Option Addr) (sl : Array (Option Value)) (u : Tok) :
    Meets (Builtin.«tuple.__mul__» ⟨[.ref l, .int 1 u], []⟩) (fun _ R s => s.heap.get? l = some { cls := .type "tuple", dict := dd, data := .seq items n, slots := sl } ∧ R (.ok (.ret (.ref l))) s) :=
  .of_wp fun prog w A R s h => by
    obtain ⟨hp, g, d, tk, os⟩ := s
    obtain ⟨hl, h⟩ := h
    have f1 := AutoSeq1.idx_int
    have c1 : (items.isEmpty || (1 : Int) == 1) = true := by rw [Bool.or_eq_true]; exact .inr rfl
    wp_walk using wpAny_loadPart' hl
    repeat (first
      | (refine wpAny_ite_false (decide_eq_false (by decide)) ?_; wp_walk using wpAny_loadPart' hl)
      | (refine wpAny_ite_true (decide_eq_true c1) ?_; wp_walk using wpAny_loadPart' hl))
    exact ⟨_, rfl, h⟩
theorem tuple_mul0 (l : Addr) (items : Array Value) (n : Nat) (dd : Option Addr) (sl : Array (Option Value)) (u : Tok) (hi : items.isEmpty = false) :
    Meets (Builtin.«tuple.__mul__» ⟨[.ref l, .int 0 u], []⟩) (fun _ R s => s.heap.get? l = some { cls := .type "tuple", dict := dd, data := .seq items n, slots := sl } ∧ R (.ok (.ret (.ref s.heap.objs.size))) { s with heap := s.heap.push { cls := Value.type "tuple", data := Data.seq #[] }, toks := s.toks }) :=
  .of_wp fun prog w A R s h => by
    obtain ⟨hp, g, d, tk, os⟩ := s
    obtain ⟨hl, h⟩ := h
    have f1 := AutoSeq1.idx_int
    have c1 : ¬ (items.isEmpty || (0 : Int) == 1) = true := by rw [hi]; decide
    have c2 : (decide ((0 : Int) ≤ 0) || items.isEmpty) = true := by rw [hi]; decide
    wp_walk using wpAny_loadPart' hl
    repeat (first
      | (refine wpAny_ite_false (decide_eq_false (by decide)) ?_; wp_walk using wpAny_loadPart' hl)
      | (refine wpAny_ite_false (decide_eq_false c1) ?_; wp_walk using wpAny_loadPart' hl)
      | (refine wpAny_ite_true (decide_eq_true c2) ?_; wp_walk using wpAny_loadPart' hl))
    exact ⟨_, rfl, h⟩
def rRep01 (K : PySem.W.Frag) : R2 := fun x y H Q => ∃ l k xs, x = .ref l ∧ y = .int k ∧ SqT K H l xs ∧ xs ≠ [] ∧ (k = 0 ∨ k = 1) ∧ (k = 1 → Q (.ref l) H) ∧ (k = 0 → ∀ p, H p = none → Q (.ref p) (L2.upd H p (.tup [])))
theorem op_rep01 {X : Cx} : OpR X (binaryOp .Mult) (rRep01 X.K) := by
  intro pins s σ H x y v u Q I rx ry h
  obtain ⟨l, k, xs, rfl, rfl, hT, hne, hk, q1, q0⟩ := h
  cases rx
  obtain ⟨t, rfl⟩ := ry
  obtain ⟨its, r, ⟨⟨cls, dd, data, sl⟩, ho, hc, n, hd⟩, hs⟩ := I.tuple hT
  simp only at hc hd
  subst hc hd
  have hn : its ≠ [] := fun e => hne (by
    have := r.length
    rw [e] at this
    exact List.eq_nil_of_length_eq_zero this)
  have hi : its.toArray.isEmpty = false := by
    cases its with
    | nil => exact absurd rfl hn
    | cons a b => rfl
  rcases hk with rfl | rfl
  · refine wpAny_binaryOp_repeat_ref (T := "tuple") (U := "int") (by decide) ⟨_, ho, rfl⟩ (fun s' => typeIs_int s' 0 t) noFill_tuple_mul PySem.F.fills_int_mul PySem.F.slot_int_rmul repeat_tuple PySem.F.slot_int_index.lookup
      (call_meets PySem.F.slot_int_rmul (typeIs_int s 0 t) PySem.F.entry_int_rmul (PySem.F.args_int_rmul_2 _ _) (int_rmul_tuple 0 t l its.toArray n dd sl)
        ⟨ho, rfl, ⟨_, ho, rfl⟩, call_meets PySem.F.slot_tuple_mul ⟨_, ho, rfl⟩ PySem.F.entry_tuple_mul (PySem.F.args_tuple_mul_2 _ _) (tuple_mul0 l its.toArray n dd sl t hi) ⟨ho, ?_⟩⟩)
    refine ⟨.ref s.heap.objs.size, _, I.laid (t' := s.toks) (o := .tup []) (fun b ob q => Heap.get?_push_of_some _ q) (Nat.le_refl _) ?_, rfl, q0 rfl _ (I.hok.fresh (Nat.le_refl _))⟩
    exact ⟨Nat.zero_le _, [], .nil, IsTup.new _ _⟩
  · refine wpAny_binaryOp_repeat_ref (T := "tuple") (U := "int") (by decide) ⟨_, ho, rfl⟩ (fun s' => typeIs_int s' 1 t) noFill_tuple_mul PySem.F.fills_int_mul PySem.F.slot_int_rmul repeat_tuple PySem.F.slot_int_index.lookup
      (call_meets PySem.F.slot_int_rmul (typeIs_int s 1 t) PySem.F.entry_int_rmul (PySem.F.args_int_rmul_2 _ _) (int_rmul_tuple 1 t l its.toArray n dd sl)
        ⟨ho, rfl, ⟨_, ho, rfl⟩, call_meets PySem.F.slot_tuple_mul ⟨_, ho, rfl⟩ PySem.F.entry_tuple_mul (PySem.F.args_tuple_mul_2 _ _) (tuple_mul1 l its.toArray n dd sl t) ⟨ho, ?_⟩⟩)
    exact ⟨.ref l, H, I, rfl, q1 rfl⟩
end
/-! ### a comprehension over two ranges -/
theorem lc2_rng {lo : Int} {n : Nat} {g : TG} {tt tt1 : TT} {wi1 : TI} {g1 : TG} {te : TE} {vs vs1 : List Nat} {σ : L2.St} {H1 : Hp} {D : Addr} {Qd : Hp → Prop} (Pv : Nat → Hp → Prop) (h0 : Pv 0 (upd H1 D (.lst [])))
    (hs : ∀ i H, i < n → Pv i H → g (.int (lo + i)) (wipe σ vs) H fun σ2 H2 => wipe σ2 vs = wipe σ vs ∧ tt σ2 H2 fun b H3 =>
      if b = true then wi1 σ2 H3 fun J1 H4 => ∃ W1 : Nat → Nat → Hp → Prop, (∃ m, W1 0 m H4) ∧ ∀ j k H, W1 j k H →
          (J1.stop j H ∧ Pv (i + 1) H) ∨ (J1.go j H ∧ ∃ Nx1 : Hp → Prop, (∀ H', Nx1 H' → ∃ k', k' < k ∧ W1 (j + 1) k' H') ∧ ∀ x H', J1.yld j H x H' → g1 x (wipe σ2 vs1) H' fun σ3 H5 => wipe σ3 vs1 = wipe σ2 vs1 ∧ tt1 σ3 H5 fun b H6 =>
            if b = true then te σ3 H6 fun y H7 => ∃ acc, H7 D = some (.lst acc) ∧ acc.length < sizeLine ∧ Nx1 (upd H7 D (.lst (acc ++ [y]))) else Nx1 H6)
      else Pv (i + 1) H3) (hd : ∀ H, Pv n H → Qd H) :
    ∃ W : Nat → Nat → Hp → Prop, (∃ m, W 0 m (upd H1 D (.lst []))) ∧ ∀ i m H, W i m H →
      ((Itr lo n).stop i H ∧ Qd H) ∨ ((Itr lo n).go i H ∧ ∃ Nx : Hp → Prop, (∀ H', Nx H' → ∃ m', m' < m ∧ W (i + 1) m' H') ∧ ∀ x H', (Itr lo n).yld i H x H' → g x (wipe σ vs) H' fun σ2 H2 => wipe σ2 vs = wipe σ vs ∧ tt σ2 H2 fun b H3 =>
        if b = true then wi1 σ2 H3 fun J1 H4 => ∃ W1 : Nat → Nat → Hp → Prop, (∃ m, W1 0 m H4) ∧ ∀ j k H, W1 j k H →
          (J1.stop j H ∧ Nx H) ∨ (J1.go j H ∧ ∃ Nx1 : Hp → Prop, (∀ H', Nx1 H' → ∃ k', k' < k ∧ W1 (j + 1) k' H') ∧ ∀ x H', J1.yld j H x H' → g1 x (wipe σ2 vs1) H' fun σ3 H5 => wipe σ3 vs1 = wipe σ2 vs1 ∧ tt1 σ3 H5 fun b H6 =>
            if b = true then te σ3 H6 fun y H7 => ∃ acc, H7 D = some (.lst acc) ∧ acc.length < sizeLine ∧ Nx1 (upd H7 D (.lst (acc ++ [y]))) else Nx1 H6)
        else Nx H3) := by
  refine ⟨fun i m H => m = n - i ∧ i ≤ n ∧ Pv i H, ⟨n, by simp, Nat.zero_le _, h0⟩, ?_⟩
  rintro i m H ⟨rfl, hi, p⟩
  by_cases hlt : i < n
  · refine .inr ⟨hlt, Pv (i + 1), fun H' p' => ⟨n - (i + 1), by omega, rfl, hlt, p'⟩, fun x H' y => ?_⟩
    obtain ⟨e, y⟩ := y
    subst e y
    exact hs i _ hlt p
  · have e : i = n := by omega
    subst e
    exact .inl ⟨Nat.le_refl _, hd H p⟩
theorem in_rng {lo : Int} {n : Nat} {g1 : TG} {tt1 : TT} {te : TE} {vs1 : List Nat} {σ2 : L2.St} {H4 : Hp} {D : Addr} {Nx : Hp → Prop} (Pv : Nat → Hp → Prop) (h0 : Pv 0 H4)
    (hs : ∀ i H, i < n → Pv i H → g1 (.int (lo + i)) (wipe σ2 vs1) H fun σ3 H5 => wipe σ3 vs1 = wipe σ2 vs1 ∧ tt1 σ3 H5 fun b H6 =>
      if b = true then te σ3 H6 fun y H7 => ∃ acc, H7 D = some (.lst acc) ∧ acc.length < sizeLine ∧ Pv (i + 1) (upd H7 D (.lst (acc ++ [y]))) else Pv (i + 1) H6) (hd : ∀ H, Pv n H → Nx H) :
    ∃ W1 : Nat → Nat → Hp → Prop, (∃ m, W1 0 m H4) ∧ ∀ j k H, W1 j k H →
      ((Itr lo n).stop j H ∧ Nx H) ∨ ((Itr lo n).go j H ∧ ∃ Nx1 : Hp → Prop, (∀ H', Nx1 H' → ∃ k', k' < k ∧ W1 (j + 1) k' H') ∧ ∀ x H', (Itr lo n).yld j H x H' → g1 x (wipe σ2 vs1) H' fun σ3 H5 => wipe σ3 vs1 = wipe σ2 vs1 ∧ tt1 σ3 H5 fun b H6 =>
        if b = true then te σ3 H6 fun y H7 => ∃ acc, H7 D = some (.lst acc) ∧ acc.length < sizeLine ∧ Nx1 (upd H7 D (.lst (acc ++ [y]))) else Nx1 H6) := by
  refine ⟨fun i m H => m = n - i ∧ i ≤ n ∧ Pv i H, ⟨n, by simp, Nat.zero_le _, h0⟩, ?_⟩
  rintro i m H ⟨rfl, hi, p⟩
  by_cases hlt : i < n
  · refine .inr ⟨hlt, Pv (i + 1), fun H' p' => ⟨n - (i + 1), by omega, rfl, hlt, p'⟩, fun x H' y => ?_⟩
    obtain ⟨e, y⟩ := y
    subst e y
    exact hs i _ hlt p
  · have e : i = n := by omega
    subst e
    exact .inl ⟨Nat.le_refl _, hd H p⟩
/-! ### plain mathematics: orders, the first valid one, ways -/
structure Od where
  s : Nat
  t : Nat
  f : Nat
  n : Nat
  e : Nat
def Od.vs (o : Od) : List V := [.int o.s, .int o.t, .int o.f, .int o.n, .int o.e]
structure OdOk (p h : Nat) (o : Od) : Prop where
  s : o.s < h
  t : o.t < h
  st : o.s ≠ o.t
  f : o.f < p
  n1 : 1 ≤ o.n
  n : o.n ≤ p
  e1 : 1 ≤ o.e
  e : o.e ≤ 9
/-- the order o is valid on the day d of a net of period p -/
def onDay (p : Nat) (o : Od) (d : Int) : Bool := decide ((d - (o.f : Int)) % (p : Int) < (o.n : Int))
def hit (p : Nat) (s : Nat) (d : Int) (o : Od) : Bool := decide (o.s = s) && onDay p o d
/-- the number of the order that is followed -/
def idx (p : Nat) (os : List Od) (s : Nat) (d : Int) : Option Nat := os.findIdx? (hit p s d)
def optV : Option Nat → V
  | none => .non
  | some k => .int k
theorem optV_flat (o : Option Nat) : flatV (optV o) = true := by cases o <;> rfl
theorem idx_mod (p : Nat) (os : List Od) (s : Nat) (d : Int) : idx p os s (d % (p : Int)) = idx p os s d := by
  unfold idx
  congr 1
  funext o
  unfold hit onDay
  rw [Int.emod_sub_emod]
theorem idx_nat (p : Nat) (os : List Od) (s d : Nat) : idx p os s ((d % p : Nat) : Int) = idx p os s (d : Int) := by
  rw [Int.natCast_emod]
  exact idx_mod p os s d
theorem idx_later (p : Nat) (os : List Od) (s d k : Nat) : idx p os s ((d + p * k : Nat) : Int) = idx p os s (d : Int) := by
  rw [← idx_nat p os s (d + p * k), Nat.add_mul_mod_self_left, idx_nat]
theorem idx_lt {p : Nat} {os : List Od} {s k : Nat} {d : Int} (h : idx p os s d = some k) : k < os.length := by
  unfold idx at h
  exact (List.findIdx?_eq_some_iff_getElem.mp h).1
theorem idx_take_succ {p : Nat} {os : List Od} {s k : Nat} {d : Int} {o : Od} (h : os[k]? = some o) :
    idx p (os.take (k + 1)) s d = (idx p (os.take k) s d).or (if hit p s d o = true then some k else none) := by
  obtain ⟨hk, ho⟩ := List.getElem?_eq_some_iff.mp h
  unfold idx
  rw [List.take_add_one, h, Option.toList_some, List.findIdx?_append, List.findIdx?_singleton]
  have hl : (os.take k).length = k := by rw [List.length_take]; omega
  rw [hl]
  cases hh : hit p s d o with
  | true => simp
  | false => simp
/-- which days of the period are among the first l days of an order -/
def among (p f l d : Nat) : Prop := ∃ j, j < l ∧ (f + j) % p = d
theorem among_zero (p f d : Nat) : ¬ among p f 0 d := fun ⟨_, h, _⟩ => absurd h (Nat.not_lt_zero _)
theorem among_succ {p f l d : Nat} : among p f (l + 1) d ↔ among p f l d ∨ (f + l) % p = d := by
  constructor
  · rintro ⟨j, hj, e⟩
    by_cases z : j = l
    · subst z
      exact .inr e
    · exact .inl ⟨j, by omega, e⟩
  · rintro (⟨j, hj, e⟩ | e)
    · exact ⟨j, by omega, e⟩
    · exact ⟨l, by omega, e⟩
theorem among_on {p h d : Nat} {o : Od} (k : OdOk p h o) (hd : d < p) : among p o.f o.n d ↔ onDay p o (d : Int) = true := by
  unfold onDay
  rw [decide_eq_true_iff]
  have kf := k.f
  have kn := k.n
  have key : ((d : Int) - (o.f : Int)) % (p : Int) = if o.f ≤ d then (d : Int) - o.f else (d : Int) - o.f + p := by
    split
    · exact Int.emod_eq_of_lt (by omega) (by omega)
    · rw [← Int.add_emod_right]
      exact Int.emod_eq_of_lt (by omega) (by omega)
  rw [key]
  constructor
  · rintro ⟨j, hj, e⟩
    by_cases q : o.f + j < p
    · rw [Nat.mod_eq_of_lt q] at e
      rw [if_pos (by omega)]
      omega
    · have e2 : (o.f + j) % p = o.f + j - p := by
        rw [Nat.mod_eq_sub_mod (by omega), Nat.mod_eq_of_lt (by omega)]
      rw [e2] at e
      split
      · omega
      · omega
  · intro q
    by_cases c : o.f ≤ d
    · rw [if_pos c] at q
      exact ⟨d - o.f, by omega, by rw [show o.f + (d - o.f) = d by omega]; exact Nat.mod_eq_of_lt hd⟩
    · rw [if_neg c] at q
      refine ⟨d + p - o.f, by omega, ?_⟩
      rw [show o.f + (d + p - o.f) = d + p by omega, Nat.add_mod_right]
      exact Nat.mod_eq_of_lt hd
/-- one hop of a letter at a house on a day -/
def hop (p : Nat) (os : List Od) (st : Nat × Nat) : Option (Nat × Nat) :=
  match idx p os st.1 (st.2 : Int) with
  | none => none
  | some k => (os[k]?).map fun o => (o.t, st.2 + o.e)
/-- the first n stops of a letter -/
def way (p : Nat) (os : List Od) : Nat → Nat × Nat → List (Nat × Nat)
  | 0, _ => []
  | n + 1, st => st :: match hop p os st with
    | none => []
    | some st' => way p os n st'
/-! ### heaps -/
/-- all but what stands at d is as it was -/
def But (d : Addr) (H H' : Hp) : Prop := ∀ b o, b ≠ d → H b = some o → H' b = some o
theorem But.refl {d : Addr} {H : Hp} : But d H H := fun _ _ _ e => e
theorem But.trans {d : Addr} {H H1 H2 : Hp} (a : But d H H1) (b : But d H1 H2) : But d H H2 := fun c o n e => b c o n (a c o n e)
theorem But.of {d : Addr} {H H' : Hp} (s : Same H H') : But d H H' := fun b o _ e => s b o e
theorem But.upd {d : Addr} {H : Hp} {o : HO} : But d H (upd H d o) := fun b u n e => by rw [upd_ne n]; exact e
theorem same_upd {H : Hp} {p : Addr} {o : HO} (h : H p = none) : Same H (L2.upd H p o) := fun b x e => by
  rw [upd_ne (ne_of_none e h)]
  exact e
theorem same_updN {H H' : Hp} {p : Addr} {o : HO} (s : Same H H') (h : H p = none) : Same H (L2.upd H' p o) := fun b x e => by
  rw [upd_ne (ne_of_none e h)]
  exact s b x e
theorem But.new {d p : Addr} {H : Hp} {o : HO} (h : H p = none) : But d H (L2.upd H p o) := But.of (same_upd h)
theorem But.free {d p : Addr} {H H' : Hp} {o : HO} (s : But d H H') (hd : H' d = some o) (h : H' p = none) : H p = none := by
  cases q : H p with
  | none => rfl
  | some u =>
    by_cases e : p = d
    · rw [e, hd] at h
      cases h
    · rw [s p u e q] at h
      cases h
/-- the tail of ints of the source of numbers -/
def DL (s c : Nat) (r : List Nat) : List V := .int s :: .int c :: r.map fun (n : Nat) => V.int (n : Int)
def DAt (H : Hp) (d : Addr) : Prop := ∃ s c r, s < 2147483647 ∧ r.length ≤ 63 ∧ H d = some (.lst (DL s c r))
theorem DAt.but {H H' : Hp} {d : Addr} (h : DAt H d) (s : Same H H') : DAt H' d := by
  obtain ⟨a, b, c, h1, h2, h3⟩ := h
  exact ⟨a, b, c, h1, h2, s _ _ h3⟩
theorem DAt.som {H : Hp} {d : Addr} (h : DAt H d) : ∃ o, H d = some o := by
  obtain ⟨a, b, c, h1, h2, h3⟩ := h
  exact ⟨_, h3⟩
theorem dl0 {s c : Nat} {r : List Nat} : atI (DL s c r) 0 = some (.int s) := atI_nat (j := 0) rfl
theorem dl1 {s c : Nat} {r : List Nat} : atI (DL s c r) 1 = some (.int c) := atI_nat (j := 1) rfl
theorem ix_at {n j : Nat} (hj : j < n) : ixN n (j : Int) = some j := by
  unfold ixN
  rw [if_pos (by omega), if_pos (by omega)]
  simp
theorem seqIx {n j : Nat} (hj : j < n) : seqIndex? (j : Int) n = some j := by
  unfold seqIndex?
  have h1 : ¬ (j : Int) < 0 := by omega
  have h2 : (decide (0 ≤ (j : Int)) && decide ((j : Int) < (n : Int))) = true := by
    rw [decide_eq_true (show 0 ≤ (j : Int) by omega), decide_eq_true (show (j : Int) < (n : Int) by omega)]
    rfl
  simp only [if_neg h1]
  rw [if_pos h2]
  simp
theorem fmod_nat (a b : Nat) : (a : Int).fmod (b : Int) = ((a % b : Nat) : Int) := by
  rw [Int.fmod_eq_emod_of_nonneg _ (by omega)]
  rfl
theorem fdiv_nat (a b : Nat) : (a : Int).fdiv (b : Int) = ((a / b : Nat) : Int) := by
  rw [Int.fdiv_eq_ediv_of_nonneg _ (by omega)]
  rfl
theorem dlx {s c j : Nat} {r : List Nat} (h : j < 2) : ixN (DL s c r).length (j : Int) = some j := ix_at (by
  show j < (List.map _ r).length + 1 + 1
  omega)
theorem dllen {s c : Nat} {r : List Nat} : (DL s c r).length = r.length + 2 := by
  show (List.map _ r).length + 1 + 1 = _
  rw [List.length_map]
/-- the built-ins that no name of the program hides -/
structure Blt (mg : Str → Option Value) : Prop where
  len : mg "len" = none
  range : mg "range" = none
  isi : mg "isinstance" = none
  int : mg "int" = none
  bool : mg "bool" = none
  str : mg "str" = none
  tuple : mg "tuple" = none
  list : mg "list" = none
  all : mg "all" = none
  abs : mg "abs" = none
  enum : mg "enumerate" = none
/-- a def of the top that keeps its promise -/
def Df (P : Program) (w : World) (K : PySem.W.Frag) (mg : Str → Option Value) (base : Heap) (x : Str) (k : Nat) (ps : List Str) (sp : Sp) : Prop :=
  ∃ (f : Addr) (fd : FuncData), mg x = some (.ref f) ∧ PySem.W.keepIn K (.ref f) = true ∧ Binds K fd ps [] ∧ FnOk P w K mg base CX0 k f fd ps sp
/-- a list of numbers -/
def nints (l : List Nat) : List V := l.map fun (n : Nat) => V.int (n : Int)
/-- filtering a range step by step -/
theorem filter_range_succ' {n : Nat} {f : Nat → Bool} : (List.range (n + 1)).filter f = (List.range n).filter f ++ (if f n = true then [n] else []) := by
  rw [List.range_succ, List.filter_append]
  congr 1
  by_cases c : f n = true
  · rw [if_pos c, List.filter_cons_of_pos c]
    rfl
  · rw [if_neg c, List.filter_cons_of_neg c]
    rfl
abbrev s_l_below : Stmt := top 36
abbrev N_l_below : List Str := ["_law_d", "_law_limit", "_law_result"]
abbrev P_l_below : List Str := ["_law_d", "_law_limit"]
theorem sc_l_below : FnScope N_l_below P_l_below (defScope s_l_below) := ⟨rfl, rfl, rfl, by decide +kernel, rfl, by decide +kernel, by decide +kernel⟩
/-! ### the next number -/
def spBelow : Sp := fun vs H Q _ => ∃ (d : Addr) (n : Nat), vs = [.ref d, .int n] ∧ DAt H d ∧ 0 < n ∧ n < 1152921504606846976 ∧
  ∀ H' (r : Nat), r < n → But d H H' → DAt H' d → Q (.int r) H'
section
variable {P : Program} {w : World} {K : PySem.W.Frag} {mg : Str → Option Value} {base : Heap}
theorem ok_below {f : Addr} {fd : FuncData} (F : Fun K "_law_below" "_law_below" s_l_below f fd) (ml : mg "len" = none) : FnOk P w K mg base CX0 2 f fd P_l_below spBelow := by
  refine F.ok sc_l_below (fun vs H Q E h => ?_) (fun cdv A outer s H vs Q E hr h => ?_)
  · obtain ⟨d, n, rfl, _⟩ := h
    rfl
  · obtain ⟨d, n, rfl, ⟨s0, c, r, hs, hl, hd⟩, n0, n1, q⟩ := h
    refine ⟨_, C8.pss_cut (ps_if (PW.pt (pw_and (pt_cmpR op_eq (pe_ix ix_list (pv 0) pe_int (fun _ _ => rfl)) pe_int (nomark _)) (pw_and1 (pt_cmpR op_gt (pe_callB call_len_seq (by rfl) ml PySem.boot_len (pa_cons (pv 0) pa_nil)) pe_int (nomark _)))))
        (pss_one (ps_asg (pe_bm PySem.F.plainAttrs_list PySem.F.slot_list_pop PySem.F.type_list_pop mt_popAt (pv 0) (pa_cons pe_int pa_nil)) (pg_sub (pv 0) pe_int set_list))) pss_nil)
      (pss_cons (ps_if (pt_cmpR op_gt (pe_ix ix_list (pv 0) pe_int (fun _ _ => rfl)) pe_int (nomark _))
        (pss_cons (ps_set (i := 2) sc_l_below.nd rfl (.inl rfl) (pe_op op_modN (pe_ix ix_list (pv 0) pe_int (fun _ _ => rfl)) (pv 1)))
          (pss_cons (ps_asg (pe_op op_fdivW (pe_ix ix_list (pv 0) pe_int (fun _ _ => rfl)) (pv 1)) (pg_sub (pv 0) pe_int set_list)) (pss_one (ps_ret (pv 2))))) pss_nil)
      (pss_cons (ps_asg (pe_op op_modN (pe_op op_add (pe_op op_mul (pe_ix ix_list (pv 0) pe_int (fun _ _ => rfl)) pe_int) pe_int) pe_int) (pg_sub (pv 0) pe_int set_list))
        (pss_one (ps_ret (pe_op op_modN (pe_op op_fdivN (pe_ix ix_list (pv 0) pe_int (fun _ _ => rfl)) pe_int) (pv 1)))))), ?_⟩
    -- if d[1] == 0 and len(d) > 2: d[1] = d.pop(2)
    have rest : ∀ (s1 c1 : Nat) (r1 : List Nat) (H1 : Hp), s1 < 2147483647 → r1.length ≤ 63 → But d H H1 → H1 d = some (.lst (DL s1 c1 r1)) →
        (fun σ' H' => σ' = [some (V.ref d), some (V.int n), none] ∧ But d H H' ∧ DAt H' d : L2.St → Hp → Prop) [some (V.ref d), some (V.int n), none] H1 := fun s1 c1 r1 H1 a1 a2 a3 a4 => ⟨rfl, a3, s1, c1, r1, a1, a2, a4⟩
    refine ⟨fun σ' H' => σ' = [some (V.ref d), some (V.int n), none] ∧ But d H H' ∧ DAt H' d, ⟨_, rfl, d, _, 1, _, rfl, rfl, SqL.of hd, dl1, rfl, _, rfl, ?_⟩, ?_⟩
    · refine ite2 (fun e => ?_) (fun _ => iteF (rest s0 c r H hs hl .refl hd))
      refine ⟨_, rfl, d, _, rfl, .inl (SqL.of hd), _, _, rfl, rfl, _, rfl, ?_⟩
      refine ite2 (fun e2 => ?_) (fun _ => rest s0 c r H hs hl .refl hd)
      have e3 : 2 < ((DL s0 c r).length : Int) := of_decide_eq_true e2
      rw [dllen] at e3
      cases r with
      | nil => exact absurd e3 (by decide)
      | cons m r2 =>
        have hl2 : r2.length + 1 ≤ 63 := hl
        refine ⟨_, rfl, .inl ⟨rfl, _, SqL.of hd⟩, d, _, 2, 2, .int m, rfl, rfl, hd, by decide, by decide, ?_, rfl, ?_⟩
        · exact seqIx (n := (DL s0 c (m :: r2)).length) (j := 2) (by rw [dllen, List.length_cons]; omega)
        · refine ⟨_, rfl, d, _, 1, 1, rfl, rfl, upd_same, ?_, ?_⟩
          · exact dlx (s := s0) (c := c) (r := r2) (j := 1) (by decide)
          · refine rest s0 m r2 _ hs (by omega) (fun b o nb e => ?_) upd_same
            rw [upd_ne nb, upd_ne nb]
            exact e
    · rintro σ' H1 ⟨rfl, b1, s1, c1, r1, hs1, hl1, hd1⟩
      -- if d[1] > 0
      refine ⟨_, rfl, d, _, 1, _, rfl, rfl, SqL.of hd1, dl1, _, _, rfl, rfl, _, rfl, ite2 (fun e => ?_) (fun _ => ?_)⟩
      · refine ⟨_, rfl, d, _, 1, _, rfl, rfl, SqL.of hd1, dl1, _, rfl, _, _, rfl, rfl, by omega, ?_⟩
        refine ⟨_, rfl, d, _, 1, _, rfl, rfl, SqL.of hd1, dl1, _, rfl, _, _, rfl, rfl, wide_div (b := 60) (by omega) (by show n < 2 ^ 60; exact n1) (by decide) (by decide), ?_⟩
        refine ⟨_, rfl, d, _, 1, 1, rfl, rfl, hd1, dlx (j := 1) (by decide), ?_⟩
        refine ⟨_, rfl, ?_⟩
        show Q (V.int ((c1 : Int).fmod (n : Int))) (L2.upd H1 d (.lst (DL s1 c1 r1 |>.set 1 (V.int ((c1 / n : Nat) : Int)))))
        rw [fmod_nat]
        exact q _ _ (Nat.mod_lt _ n0) (b1.trans .upd) ⟨s1, c1 / n, r1, hs1, hl1, upd_same⟩
      · refine ⟨_, rfl, d, _, 0, _, rfl, rfl, SqL.of hd1, dl0, _, _, rfl, rfl, .inl ⟨by omega, by omega⟩, _, _, rfl, rfl, _, _, rfl, rfl, (by show (2147483647 : Int) ≠ 0; decide), ?_⟩
        refine ⟨_, rfl, d, _, 0, 0, rfl, rfl, hd1, dlx (j := 0) (by decide), ?_⟩
        have e5 : ((s1 : Int) * 48271 + 11).fmod 2147483647 = (((s1 * 48271 + 11) % 2147483647 : Nat) : Int) := fmod_nat (s1 * 48271 + 11) 2147483647
        have e6 : ((DL s1 c1 r1).set 0 (V.int (((s1 : Int) * 48271 + 11).fmod 2147483647))) = DL ((s1 * 48271 + 11) % 2147483647) c1 r1 := by
          rw [e5]
          rfl
        have hd2 : (L2.upd H1 d (.lst ((DL s1 c1 r1).set 0 (V.int (((s1 : Int) * 48271 + 11).fmod 2147483647))))) d = some (.lst (DL ((s1 * 48271 + 11) % 2147483647) c1 r1)) := by
          rw [upd_same, e6]
        refine ⟨_, rfl, d, _, 0, _, rfl, rfl, SqL.of hd2, dl0, _, _, rfl, rfl, ⟨by decide, by decide⟩, _, rfl, _, _, rfl, rfl, by omega, ?_⟩
        show Q (V.int (Int.fmod (Int.fdiv (((s1 * 48271 + 11) % 2147483647 : Nat) : Int) ((64 : Nat) : Int)) (n : Int))) _
        rw [fdiv_nat, fmod_nat]
        exact q _ _ (Nat.mod_lt _ n0) (b1.trans .upd) ⟨_, c1, r1, Nat.mod_lt _ (by decide), hl1, hd2⟩
end
abbrev s_l_random : Stmt := top 35
abbrev N_l_random : List Str := ["_law_script", "_law_salt", "_law_seed", "_law_cell"]
abbrev P_l_random : List Str := ["_law_script", "_law_salt"]
theorem sc_l_random : FnScope N_l_random P_l_random (defScope s_l_random) := ⟨rfl, rfl, rfl, by decide +kernel, rfl, by decide +kernel, by decide +kernel⟩
/-! ### the source of numbers -/
def spRandom (K : PySem.W.Frag) : Sp := fun vs H Q _ => ∃ (a : Addr) (ns : List Int) (salt : Nat), vs = [.ref a, .int salt] ∧ SqL K H a (ns.map V.int) ∧ ns.length ≤ 63 ∧ salt < 2147483647 ∧
  ∀ H' d, Same H H' → H d = none → DAt H' d → Q (.ref d) H'
section
variable {P : Program} {w : World} {K : PySem.W.Frag} {mg : Str → Option Value} {base : Heap}
theorem ok_random {f : Addr} {fd : FuncData} (F : Fun K "_law_random" "_law_random" s_l_random f fd) (B : Blt mg) : FnOk P w K mg base CX0 2 f fd P_l_random (spRandom K) := by
  refine F.ok sc_l_random (fun vs H Q E h => ?_) (fun cdv A outer s H vs Q E hr h => ?_)
  · obtain ⟨a, ns, salt, rfl, _⟩ := h
    rfl
  · obtain ⟨a, ns, salt, rfl, hS, hlen, hsalt, q⟩ := h
    refine ⟨_, pss_cons (ps_set (i := 2) sc_l_random.nd rfl (.inl rfl) (pv 1))
      (pss_cons (ps_for PassesOwn.never rfl (pi_list (pv 0)) (pg_name (i := 3) sc_l_random.nd rfl (.inl rfl))
        (pss_one (ps_set (i := 2) sc_l_random.nd rfl (.inl rfl) (pe_op op_modN (pe_op op_add (pe_op op_mul (pv 2) pe_int) (pe_callB call_abs (by rfl) B.abs PyProof.Rows.boot_abs (pa_cons (pv 3) pa_nil))) pe_int))))
      (pss_one (ps_ret (pe_op op_cat (pe_lst (pa_cons (pv 2) (pa_cons pe_int pa_nil)))
        (pe_lc (own := [("_law_cell", 3)]) (g := gName 3) (by rfl) sc_l_random.nd (pi_list (pv 0)) (blkOk_by (N := N_l_random) (sc := defScope s_l_random) (by decide +kernel))
          (fun _ _ _ _ _ => pg_name (i := 3) sc_l_random.nd rfl (.inl rfl)) (fun _ _ _ _ _ => pts_one (pt_cmpR op_ge (pv 3) (pe_op op_pow pe_int pe_int) (nomark _))) (fun _ _ _ _ _ => pv 3)))))), ?_⟩
    refine ⟨_, rfl, .ref a, rfl, a, rfl, ⟨_, hS⟩, for_list (K := K) (a := a) (xs := ns.map V.int) (fun i σ H' => ∃ (z : Nat) (v : Option V), z < 2147483647 ∧ σ = [some (.ref a), some (.int salt), some (.int z), v] ∧ H' = H)
      ⟨salt, none, hsalt, rfl, rfl⟩ (fun i σ H' _ ⟨_, _, _, _, e⟩ => by rw [e]; exact hS) ?_ ?_⟩
    · rintro i y σ H' hi ⟨z, v, hz, rfl, rfl⟩
      obtain ⟨u, rfl⟩ : ∃ u, y = V.int u := by
        rw [List.getElem?_map] at hi
        cases e : ns[i]? with
        | none => rw [e] at hi; cases hi
        | some u => rw [e] at hi; exact ⟨u, (Option.some.inj hi).symm⟩
      refine ⟨_, rfl, _, _, rfl, rfl, .inl ⟨by omega, by omega⟩, _, rfl, _, rfl, _, _, rfl, rfl, _, _, rfl, rfl, (by show (2147483647 : Int) ≠ 0; decide), ?_⟩
      have e1 : (z : Int) * 31 + (if u < 0 then -u else u) = ((z * 31 + u.natAbs : Nat) : Int) := by
        split <;> omega
      refine ⟨(z * 31 + u.natAbs) % 2147483647, some (.int u), Nat.mod_lt _ (by decide), ?_, rfl⟩
      show [some (V.ref a), some (V.int salt), some (V.int (Int.fmod ((z : Int) * 31 + (if u < 0 then -u else u)) 2147483647)), some (V.int u)] = _
      rw [e1, show ((2147483647 : Int)) = ((2147483647 : Nat) : Int) from rfl, fmod_nat]
    · rintro σ H' ⟨z, v, hz, rfl, rfl⟩
      refine ⟨_, rfl, (by show 2 ≤ sizeLine; decide), fun l nl => ?_⟩
      have sl := same_upd (o := HO.lst [V.int z, V.int 0]) nl
      refine ⟨.ref a, rfl, a, rfl, ⟨_, sl.seq hS⟩, fun D nD => ?_⟩
      have nDl : l ≠ D := fun e => by
        rw [← e, upd_same] at nD
        cases nD
      refine lc_list (K := K) (a := a) (xs := ns.map V.int) (fun i H1 => ∃ r : List Nat, r.length ≤ i ∧ H1 = L2.upd (L2.upd H' l (.lst [V.int z, V.int 0])) D (.lst (r.map fun (n : Nat) => V.int (n : Int))))
        ⟨[], Nat.le_refl _, rfl⟩ (fun i H1 _ ⟨r, _, e⟩ => by rw [e]; exact (same_upd nD).seq (sl.seq hS)) ?_ ?_
      · rintro i x H1 hi ⟨r, hr1, rfl⟩
        obtain ⟨u, rfl⟩ : ∃ u, x = V.int u := by
          rw [List.getElem?_map] at hi
          cases e : ns[i]? with
          | none => rw [e] at hi; cases hi
          | some u => rw [e] at hi; exact ⟨u, (Option.some.inj hi).symm⟩
        have hi63 : i < ns.length := by
          have q := (List.getElem?_eq_some_iff.mp hi).1
          rw [List.length_map] at q
          exact q
        refine ⟨rfl, _, rfl, _, _, rfl, rfl, ⟨by decide, by decide, by decide⟩, _, _, rfl, rfl, _, rfl, ite2 (fun e => ?_) (fun _ => ⟨r, by omega, rfl⟩)⟩
        have e1 : (10 : Int) ^ (18 : Int).toNat ≤ u := of_decide_eq_true e
        have e2 : (0 : Int) ≤ u := Int.le_trans (by decide) e1
        refine ⟨_, rfl, _, upd_same, ?_, r ++ [u.toNat], ?_, ?_⟩
        · rw [List.length_map]
          exact small1000 (by omega)
        · rw [List.length_append, List.length_singleton]
          omega
        · rw [upd_upd, List.map_append]
          show L2.upd _ D (.lst (_ ++ [V.int u])) = L2.upd _ D (.lst (_ ++ [V.int (u.toNat : Int)]))
          rw [Int.toNat_of_nonneg e2]
      · rintro H1 ⟨r, hr1, rfl⟩
        rw [List.length_map] at hr1
        refine ⟨l, D, _, _, rfl, rfl, (upd_ne nDl).trans upd_same, upd_same, ?_, fun d nd => ?_⟩
        · rw [List.length_map]
          exact Nat.le_of_lt (small1000 (by show 2 + r.length ≤ 1000; omega))
        · refine q _ d (sl.trans ((same_upd nD).trans (same_upd nd))) (sl.free ((same_upd nD).free nd)) ⟨z, 0, r, hz, by omega, upd_same⟩
end
/-! ### the parts of a net -/
def OrdAt (H : Hp) (v : V) (o : Od) : Prop := ∃ t, v = .ref t ∧ H t = some (.tup o.vs)
def TupKeep (H H' : Hp) : Prop := ∀ b xs, H b = some (.tup xs) → H' b = some (.tup xs)
theorem tk_of {H H' : Hp} (s : Same H H') : TupKeep H H' := fun b _ e => s b _ e
theorem But.tk {d : Addr} {H H' : Hp} (s : But d H H') (hd : DAt H d) : TupKeep H H' := fun b xs e => by
  obtain ⟨_, _, _, _, _, h3⟩ := hd
  exact s b _ (ne_of e h3 (by intro q; cases q)) e
theorem TupKeep.lst {H : Hp} {a : Addr} {xs : List V} {o : HO} (h : H a = some (.lst xs)) : TupKeep H (L2.upd H a o) := fun b ys e => by
  rw [upd_ne (ne_of e h (by intro q; cases q))]
  exact e
theorem But.updN {d p : Addr} {H H' : Hp} {o : HO} (s : But d H H') (h : H p = none) : But d H (L2.upd H' p o) := fun b u n e => by
  rw [upd_ne (ne_of_none e h)]
  exact s b u n e
theorem DAt.updN {d p : Addr} {H : Hp} {o : HO} (h : DAt H d) (n : d ≠ p) : DAt (L2.upd H p o) d := by
  obtain ⟨a, b, c, h1, h2, h3⟩ := h
  exact ⟨a, b, c, h1, h2, by rw [upd_ne n]; exact h3⟩
theorem TupKeep.trans {H H1 H2 : Hp} (a : TupKeep H H1) (b : TupKeep H1 H2) : TupKeep H H2 := fun c o e => b c o (a c o e)
theorem OrdAt.keep {H H' : Hp} {v : V} {o : Od} (k : TupKeep H H') (h : OrdAt H v o) : OrdAt H' v o := by
  obtain ⟨t, e, ht⟩ := h
  exact ⟨t, e, k _ _ ht⟩
theorem OrdsAt.keep {H H' : Hp} {ts : List V} {os : List Od} (k : TupKeep H H') (h : Paired (OrdAt H) ts os) : Paired (OrdAt H') ts os :=
  Paired.mapP h fun _ _ q => q.keep k
theorem Paired.snoc {α β : Type} {F : α → β → Prop} {x : α} {y : β} : ∀ {l1 : List α} {l2 : List β}, Paired F l1 l2 → F x y → Paired F (l1 ++ [x]) (l2 ++ [y])
  | _, _, .nil, q => .cons q .nil
  | _, _, .cons r t, q => .cons r (Paired.snoc t q)
theorem Paired.get? {α β : Type} {F : α → β → Prop} : ∀ {l1 : List α} {l2 : List β} {i : Nat} {y : β}, Paired F l1 l2 → l2[i]? = some y → ∃ x, l1[i]? = some x ∧ F x y
  | _, _, _, _, .nil, e => by simp at e
  | _, _, 0, _, .cons r _, e => by
    simp at e
    subst e
    exact ⟨_, rfl, r⟩
  | _, _, i + 1, y, .cons _ t, e => by
    obtain ⟨u, h1, h2⟩ := Paired.get? (i := i) (y := y) t (by simpa using e)
    exact ⟨u, by simpa using h1, h2⟩
structure NetOk (p h : Nat) (os : List Od) : Prop where
  p1 : 1 ≤ p
  p30 : p ≤ 30
  h1 : 1 ≤ h
  h10 : h ≤ 10
  len : os.length ≤ 20
  ok : ∀ o ∈ os, OdOk p h o
/-- the orders' tuple -/
def OrdsTup (H : Hp) (t : Addr) (os : List Od) : Prop := ∃ ts, H t = some (.tup ts) ∧ Paired (OrdAt H) ts os
theorem OrdsTup.keep {H H' : Hp} {t : Addr} {os : List Od} (k : TupKeep H H') (h : OrdsTup H t os) : OrdsTup H' t os := by
  obtain ⟨ts, h1, h2⟩ := h
  exact ⟨ts, k _ _ h1, OrdsAt.keep k h2⟩
def PartsAt (H : Hp) (a : Addr) (p h : Nat) (os : List Od) : Prop := ∃ t, H a = some (.tup [.int p, .int h, .ref t]) ∧ OrdsTup H t os
theorem PartsAt.keep {H H' : Hp} {a : Addr} {p h : Nat} {os : List Od} (k : TupKeep H H') (q : PartsAt H a p h os) : PartsAt H' a p h os := by
  obtain ⟨t, h1, h2⟩ := q
  exact ⟨t, k _ _ h1, h2.keep k⟩
abbrev s_is_integer : Stmt := top 20
abbrev N_is_integer : List Str := ["value"]
abbrev P_is_integer : List Str := ["value"]
theorem sc_is_integer : FnScope N_is_integer P_is_integer (defScope s_is_integer) := ⟨rfl, rfl, rfl, by decide +kernel, rfl, by decide +kernel, by decide +kernel⟩
abbrev s_is_within : Stmt := top 21
abbrev N_is_within : List Str := ["value", "low", "high"]
abbrev P_is_within : List Str := ["value", "low", "high"]
theorem sc_is_within : FnScope N_is_within P_is_within (defScope s_is_within) := ⟨rfl, rfl, rfl, by decide +kernel, rfl, by decide +kernel, by decide +kernel⟩
abbrev s_is_order : Stmt := top 30
abbrev N_is_order : List Str := ["period", "houses", "order", "source", "target", "first", "days", "delay"]
abbrev P_is_order : List Str := ["period", "houses", "order"]
theorem sc_is_order : FnScope N_is_order P_is_order (defScope s_is_order) := ⟨rfl, rfl, rfl, by decide +kernel, rfl, by decide +kernel, by decide +kernel⟩
abbrev s_check_orders : Stmt := top 31
abbrev N_check_orders : List Str := ["period", "houses", "orders", "index", "order"]
abbrev P_check_orders : List Str := ["period", "houses", "orders"]
theorem sc_check_orders : FnScope N_check_orders P_check_orders (defScope s_check_orders) := ⟨rfl, rfl, rfl, by decide +kernel, rfl, by decide +kernel, by decide +kernel⟩
/-! ### is_within, is_order, check_orders -/
/-- a value that is no int (a bool, or a thing of another built-in type) -/
def NotInt (K : PySem.W.Frag) (H : Hp) (x : V) : Prop := (∃ b, x = .bl b) ∨ ∃ t, TyX K H x (.type t) ∧ kitB t "int" = some false
def Kn (K : PySem.W.Frag) (H : Hp) (x : V) : Prop := (∃ i, x = .int i) ∨ (NotInt K H x ∧ ∀ i, x ≠ .int i)
def withinB (x : V) (lo hi : Int) : Bool := match x with
  | .int v => decide (lo ≤ v) && decide (v ≤ hi)
  | _ => false
theorem Kn.int {K : PySem.W.Frag} {H : Hp} {i : Int} : Kn K H (.int i) := .inl ⟨i, rfl⟩
theorem withinB_no {x : V} {lo hi : Int} (h : ∀ i, x ≠ .int i) : withinB x lo hi = false := by
  unfold withinB
  split
  · rename_i v
    exact absurd rfl (h v)
  · rfl
def isIntB (x : V) : Bool := match x with
  | .int _ => true
  | _ => false
theorem isIntB_no {x : V} (h : ∀ i, x ≠ .int i) : isIntB x = false := by
  unfold isIntB
  split
  · rename_i v
    exact absurd rfl (h v)
  · rfl
def spIsInt (K : PySem.W.Frag) : Sp := fun vs H Q _ => ∃ (x : V), vs = [x] ∧ Kn K H x ∧ Q (.bl (isIntB x)) H
def spWithin (K : PySem.W.Frag) : Sp := fun vs H Q _ => ∃ (x : V) (lo hi : Int), vs = [x, .int lo, .int hi] ∧ Kn K H x ∧ Q (.bl (withinB x lo hi)) H
section
variable {P : Program} {w : World} {K : PySem.W.Frag} {mg : Str → Option Value} {base : Heap}
theorem ok_isint {f : Addr} {fd : FuncData} (F : Fun K "is_integer" "is_integer" s_is_integer f fd) (B : Blt mg) : FnOk P w K mg base CX0 1 f fd P_is_integer (spIsInt K) := by
  refine F.ok sc_is_integer (fun vs H Q E h => ?_) (fun cdv A outer s H vs Q E hr h => ?_)
  · obtain ⟨x, rfl, _⟩ := h
    rfl
  · obtain ⟨x, rfl, hk, q⟩ := h
    refine ⟨_, pss_one (ps_ret (pe_and (pe_callB call_isi (by rfl) B.isi PyProof.Rows.boot_isinstance (pa_cons (pv 0) (pa_cons (pe_bltn (v := .ty "int") (by rfl) B.int (by decide +kernel) rfl) pa_nil)))
      (pe_one (pe_not (pe_callB call_isi (by rfl) B.isi PyProof.Rows.boot_isinstance (pa_cons (pv 0) (pa_cons (pe_bltn (v := .ty "bool") (by rfl) B.bool (by decide +kernel) rfl) pa_nil))))))), ?_⟩
    rcases hk with ⟨v, rfl⟩ | ⟨⟨b, rfl⟩ | ⟨t, ty, kt⟩, hne⟩
    · refine ⟨_, rfl, _, _, _, _, true, rfl, .ty "int", .base (.int v), kit_ty (by decide +kernel), _, rfl, iteT ?_⟩
      exact ⟨_, rfl, _, _, _, _, false, rfl, .ty "bool", .base (.int v), kit_ty (by decide +kernel), _, rfl, q⟩
    · refine ⟨_, rfl, _, _, _, _, true, rfl, .ty "int", .base (.bl b), kit_ty (by decide +kernel), _, rfl, iteT ?_⟩
      exact ⟨_, rfl, _, _, _, _, true, rfl, .ty "bool", .base (.bl b), kit_ty (by decide +kernel), _, rfl, q⟩
    · rw [isIntB_no hne] at q
      exact ⟨_, rfl, _, _, _, _, false, rfl, .ty "int", ty, kit_ty kt, _, rfl, iteF q⟩
theorem ok_within {f : Addr} {fd : FuncData} (F : Fun K "is_within" "is_within" s_is_within f fd) (DI : Df P w K mg base "is_integer" 1 P_is_integer (spIsInt K)) : FnOk P w K mg base CX0 2 f fd P_is_within (spWithin K) := by
  obtain ⟨fI, fdI, gI, KI, bI, GI⟩ := DI
  refine F.ok sc_is_within (fun vs H Q E h => ?_) (fun cdv A outer s H vs Q E hr h => ?_)
  · obtain ⟨x, lo, hi, rfl, _⟩ := h
    rfl
  · obtain ⟨x, lo, hi, rfl, hk, q⟩ := h
    refine ⟨_, pss_one (ps_ret (pe_and (pe_call GI hr (by rfl) gI KI bI .nil pass0 (pa_cons (pv 0) pa_nil))
      (pe_one (pe_chain op_le op_le (pv 1) (pv 0) (pv 2))))), ?_⟩
    refine ⟨_, rfl, x, rfl, hk, ?_⟩
    cases x with
    | int v =>
      refine ⟨_, rfl, iteT ?_⟩
      refine ⟨_, rfl, _, rfl, _, _, rfl, rfl, _, rfl, ite2 (fun e => ?_) (fun e => ?_)⟩
      · refine ⟨_, rfl, _, _, rfl, rfl, ?_⟩
        have q2 : Q (.bl (decide (lo ≤ v) && decide (v ≤ hi))) H := q
        rw [e, Bool.true_and] at q2
        exact q2
      · have q2 : Q (.bl (decide (lo ≤ v) && decide (v ≤ hi))) H := q
        rw [Bool.eq_false_iff.mpr e, Bool.false_and] at q2
        exact q2
    | _ => exact ⟨_, rfl, iteF q⟩
end
/-- what is_order says of the values of a tuple -/
def orderB (p h : Int) : List V → Bool
  | [s, t, f, n, e] => withinB s 0 (h - 1) && (withinB t 0 (h - 1) && (!decide (s = t) && (withinB f 0 (p - 1) && (withinB n 1 p && withinB e 1 9))))
  | _ => false
theorem within_nat {v lo hi : Nat} (h1 : lo ≤ v) (h2 : v ≤ hi) : withinB (.int v) lo hi = true := by
  show (decide ((lo : Int) ≤ v) && decide ((v : Int) ≤ hi)) = true
  rw [decide_eq_true (by omega), decide_eq_true (by omega)]
  rfl
theorem orderB_ok {p h : Nat} {o : Od} (k : OdOk p h o) : orderB p h o.vs = true := by
  have a1 := k.s; have a2 := k.t; have a3 := k.st; have a4 := k.f; have a5 := k.n1; have a6 := k.n; have a7 := k.e1; have a8 := k.e
  show (withinB (.int o.s) 0 ((h : Int) - 1) && (withinB (.int o.t) 0 ((h : Int) - 1) && (!decide (V.int o.s = V.int o.t) && (withinB (.int o.f) 0 ((p : Int) - 1) && (withinB (.int o.n) 1 p && withinB (.int o.e) 1 9))))) = true
  have e1 : ((h : Int) - 1) = ((h - 1 : Nat) : Int) := by omega
  have e2 : ((p : Int) - 1) = ((p - 1 : Nat) : Int) := by omega
  rw [e1, e2]
  have b1 : withinB (.int o.s) 0 ((h - 1 : Nat) : Int) = true := within_nat (lo := 0) (by omega) (by omega)
  have b2 : withinB (.int o.t) 0 ((h - 1 : Nat) : Int) = true := within_nat (lo := 0) (by omega) (by omega)
  have b3 : withinB (.int o.f) 0 ((p - 1 : Nat) : Int) = true := within_nat (lo := 0) (by omega) (by omega)
  have b4 : withinB (.int o.n) 1 p = true := within_nat (lo := 1) (by omega) (by omega)
  have b5 : withinB (.int o.e) 1 9 = true := within_nat (lo := 1) (hi := 9) (by omega) (by omega)
  have b6 : decide (V.int (o.s : Int) = V.int o.t) = false := decide_eq_false fun z => a3 (by
    have z2 := V.int.inj z
    omega)
  rw [b1, b2, b3, b4, b5, b6]
  rfl
/-- what may be asked whether it is an order: a tuple of known values, or a thing that is no tuple -/
def OrderLike (K : PySem.W.Frag) (H : Hp) (v : V) (p h : Int) (b : Bool) : Prop :=
  (∃ a xs, v = .ref a ∧ H a = some (.tup xs) ∧ (∀ x ∈ xs, Kn K H x) ∧ b = orderB p h xs) ∨ (∃ t, TyX K H v (.type t) ∧ kitB t "tuple" = some false ∧ b = false)
theorem OrdAt.like {K : PySem.W.Frag} {H : Hp} {v : V} {o : Od} {p h : Nat} (k : OdOk p h o) (q : OrdAt H v o) : OrderLike K H v p h true := by
  obtain ⟨t, rfl, ht⟩ := q
  refine .inl ⟨t, _, rfl, ht, fun x hx => ?_, (orderB_ok k).symm⟩
  unfold Od.vs at hx
  simp only [List.mem_cons, List.not_mem_nil, or_false] at hx
  rcases hx with rfl | rfl | rfl | rfl | rfl <;> exact Kn.int
theorem withinB_int {x : V} {lo hi : Int} (h : withinB x lo hi = true) : ∃ i, x = .int i := by
  cases x <;> first
    | exact ⟨_, rfl⟩
    | cases h
def spIsOrder (K : PySem.W.Frag) : Sp := fun vs H Q _ => ∃ (v : V) (p h : Int) (b : Bool), vs = [.int p, .int h, v] ∧ OrderLike K H v p h b ∧ Q (.bl b) H
section
variable {P : Program} {w : World} {K : PySem.W.Frag} {mg : Str → Option Value} {base : Heap}
theorem ok_is_order {f : Addr} {fd : FuncData} (F : Fun K "is_order" "is_order" s_is_order f fd) (B : Blt mg) (DW : Df P w K mg base "is_within" 2 P_is_within (spWithin K)) (hM : ∃ t, mg "LONGEST_DELAY" = some (.int 9 t)) : FnOk P w K mg base CX0 3 f fd P_is_order (spIsOrder K) := by
  obtain ⟨fW, fdW, gW, kW, bW, GW⟩ := DW
  obtain ⟨tk9, hM⟩ := hM
  refine F.ok sc_is_order (fun vs H Q E h => ?_) (fun cdv A outer s H vs Q E hr h => ?_)
  · obtain ⟨v, p, h, b, rfl, _⟩ := h
    rfl
  · obtain ⟨v, p, h, b, rfl, hl, q⟩ := h
    refine ⟨_, pss_cons (ps_if (PW.pt (pw_or (pt_not (pt_val (pe_callB call_isi (by rfl) B.isi PyProof.Rows.boot_isinstance (pa_cons (pv 2) (pa_cons (pe_bltn (v := .ty "tuple") (by rfl) B.tuple (by decide +kernel) rfl) pa_nil)))))
        (pw_or1 (pt_cmpR op_ne (pe_callB call_len_seq (by rfl) B.len PySem.boot_len (pa_cons (pv 2) pa_nil)) pe_int (nomark _))))) (pss_one (ps_ret pe_bl)) pss_nil)
      (pss_cons (ps_asg (pv 2) (pg_tup (by rfl) (pgs_cons (pg_name (i := 3) sc_is_order.nd rfl (.inl rfl)) (pgs_cons (pg_name (i := 4) sc_is_order.nd rfl (.inl rfl)) (pgs_cons (pg_name (i := 5) sc_is_order.nd rfl (.inl rfl))
        (pgs_cons (pg_name (i := 6) sc_is_order.nd rfl (.inl rfl)) (pgs_cons (pg_name (i := 7) sc_is_order.nd rfl (.inl rfl)) pgs_nil)))))))
      (pss_cons (ps_if (pt_not (PW.pt (pw_and (pt_val (pe_call GW hr (by rfl) gW kW bW .nil pass0 (pa_cons (pv 3) (pa_cons pe_int (pa_cons (pe_op op_sub (pv 1) pe_int) pa_nil)))))
        (pw_and (pt_val (pe_call GW hr (by rfl) gW kW bW .nil pass0 (pa_cons (pv 4) (pa_cons pe_int (pa_cons (pe_op op_sub (pv 1) pe_int) pa_nil)))))
          (pw_and1 (pt_cmpR op_ne (pv 3) (pv 4) (nomark _))))))) (pss_one (ps_ret pe_bl)) pss_nil)
      (pss_one (ps_ret (pe_and (pe_call GW hr (by rfl) gW kW bW .nil pass0 (pa_cons (pv 5) (pa_cons pe_int (pa_cons (pe_op op_sub (pv 0) pe_int) pa_nil))))
        (pe_and (pe_call GW hr (by rfl) gW kW bW .nil pass0 (pa_cons (pv 6) (pa_cons pe_int (pa_cons (pv 0) pa_nil))))
          (pe_one (pe_call GW hr (by rfl) gW kW bW .nil pass0 (pa_cons (pv 7) (pa_cons pe_int (pa_cons (pe_glob (v := .int 9) rfl hM ⟨_, rfl⟩) pa_nil))))))))))), ?_⟩
    rcases hl with ⟨a, xs, rfl, ha, hkn, rfl⟩ | ⟨t, ty, kt, rfl⟩
    · refine ⟨_, rfl, _, _, _, _, true, rfl, .ty "tuple", .base (.tup ha), kit_ty (by decide +kernel), _, rfl, iteF ?_⟩
      refine ⟨_, rfl, a, xs, rfl, .inr (SqT.of ha), rfl, _, rfl, ?_⟩
      refine ite2 (fun e => ?_) (fun e => ?_)
      · have hne : orderB p h xs = false := by
          match xs, e with
          | [], _ => rfl
          | [_], _ => rfl
          | [_, _], _ => rfl
          | [_, _, _], _ => rfl
          | [_, _, _, _], _ => rfl
          | [_, _, _, _, _], e => exact absurd e (by show ¬ (!decide (V.int ((5 : Nat) : Int) = V.int 5)) = true; decide)
          | _ :: _ :: _ :: _ :: _ :: _ :: _, _ => rfl
        rw [hne] at q
        exact q
      · have h5 : xs.length = 5 := by
          by_cases z : xs.length = 5
          · exact z
          · exact absurd (show (!decide (V.int (xs.length : Int) = V.int 5)) = true by
              rw [decide_eq_false (fun z2 => z (by have z3 := V.int.inj z2; omega))]
              rfl) e
        match xs, h5 with
        | [x1, x2, x3, x4, x5], _ =>
          have k1 := hkn x1 (by simp)
          have k2 := hkn x2 (by simp)
          have k3 := hkn x3 (by simp)
          have k4 := hkn x4 (by simp)
          have k5 := hkn x5 (by simp)
          refine ⟨_, rfl, a, _, rfl, SqT.of ha, rfl, _, _, rfl, _, _, rfl, _, _, rfl, _, _, rfl, _, _, rfl, rfl, ?_⟩
          have q2 : Q (.bl (withinB x1 0 (h - 1) && (withinB x2 0 (h - 1) && (!decide (x1 = x2) && (withinB x3 0 (p - 1) && (withinB x4 1 p && withinB x5 1 9)))))) H := q
          refine ⟨_, rfl, _, rfl, _, _, rfl, rfl, x1, 0, h - 1, rfl, k1, _, rfl, ite2 (fun e1 => ?_) (fun e1 => ?_)⟩
          · refine ⟨_, rfl, _, rfl, _, _, rfl, rfl, x2, 0, h - 1, rfl, k2, _, rfl, ite2 (fun e2 => ?_) (fun e2 => ?_)⟩
            · obtain ⟨i1, rfl⟩ := withinB_int e1
              obtain ⟨i2, rfl⟩ := withinB_int e2
              rw [e1, e2, Bool.true_and, Bool.true_and] at q2
              refine ⟨_, rfl, _, rfl, rfl, _, rfl, ?_⟩
              by_cases z : V.int i1 = V.int i2
              · rw [decide_eq_true z] at q2
                rw [decide_eq_true z]
                exact q2
              · rw [decide_eq_false z, Bool.not_false, Bool.true_and] at q2
                rw [decide_eq_false z]
                refine ⟨_, rfl, _, rfl, _, _, rfl, rfl, x3, 0, p - 1, rfl, k3, _, rfl, ite2 (fun e3 => ?_) (fun e3 => ?_)⟩
                · rw [e3, Bool.true_and] at q2
                  refine ⟨_, rfl, _, rfl, x4, 1, p, rfl, k4, _, rfl, ite2 (fun e4 => ?_) (fun e4 => ?_)⟩
                  · rw [e4, Bool.true_and] at q2
                    exact ⟨_, rfl, x5, 1, 9, rfl, k5, q2⟩
                  · rw [Bool.eq_false_iff.mpr e4, Bool.false_and] at q2
                    exact q2
                · rw [Bool.eq_false_iff.mpr e3, Bool.false_and] at q2
                  exact q2
            · rw [e1, Bool.eq_false_iff.mpr e2, Bool.true_and, Bool.false_and] at q2
              exact iteT q2
          · rw [Bool.eq_false_iff.mpr e1, Bool.false_and] at q2
            exact iteT q2
    · exact ⟨_, rfl, _, _, _, _, false, rfl, .ty "tuple", ty, kit_ty kt, _, rfl, iteT q⟩
end
/-! ### walks over an enumerated tuple; check_orders for valid nets; find_followed -/
theorem for_enumT {K : PySem.W.Frag} {a : Addr} {xs : List V} {g : TG} {tb : TS} {D : Ends} {σ : L2.St} {H : Hp} (Pv : Nat → L2.St → Hp → Prop) (h0 : Pv 0 σ H) (hl : ∀ i σ H, Pv i σ H → H a = some (.tup xs))
    (hs : ∀ i x σ H T, xs[i]? = some x → Pv i σ H → H T = none → g (.ref T) σ (upd H T (.tup [.int (i : Nat), x])) fun σ2 H2 => tb { D with nx := Pv (i + 1), ct := Pv (i + 1), bk := D.nx } σ2 H2) (hd : ∀ σ H, Pv xs.length σ H → D.nx σ H) :
    ∃ W : Nat → Nat → L2.St → Hp → Prop, (∃ m, W 0 m σ H) ∧ ∀ i m σ H, W i m σ H →
      ((IteT K a).stop i H ∧ D.nx σ H) ∨ ((IteT K a).go i H ∧ ∃ N : L2.St → Hp → Prop, (∀ σ' H', N σ' H' → ∃ m', m' < m ∧ W (i + 1) m' σ' H') ∧ ∀ x H', (IteT K a).yld i H x H' → g x σ H' fun σ2 H2 => tb { D with nx := N, ct := N, bk := D.nx } σ2 H2) := by
  refine ⟨fun i m σ H => m = xs.length - i ∧ i ≤ xs.length ∧ Pv i σ H, ⟨xs.length, rfl, Nat.zero_le _, h0⟩, ?_⟩
  rintro i m σ H ⟨rfl, hi, p⟩
  have q := hl i σ H p
  by_cases hlt : i < xs.length
  · refine .inr ⟨⟨xs, xs[i], SqT.of q, List.getElem?_eq_getElem hlt⟩, Pv (i + 1), fun σ' H' p' => ⟨xs.length - (i + 1), by omega, rfl, hlt, p'⟩, fun x H' y => ?_⟩
    obtain ⟨T, x', rfl, nT, rfl, f⟩ := y
    obtain rfl : x' = xs[i] := Option.some.inj ((f xs (SqT.of q)).symm.trans (List.getElem?_eq_getElem hlt))
    exact hs i _ σ H T (List.getElem?_eq_getElem hlt) p nT
  · refine .inl ⟨⟨xs, SqT.of q, by omega⟩, hd σ H ?_⟩
    rw [show xs.length = i by omega]
    exact p
def spChkOrders : Sp := fun vs H Q _ => ∃ (t : Addr) (p h : Nat) (os : List Od), vs = [.int p, .int h, .ref t] ∧ NetOk p h os ∧ OrdsTup H t os ∧ ∀ H', Same H H' → Q .non H'
section
variable {P : Program} {w : World} {K : PySem.W.Frag} {mg : Str → Option Value} {base : Heap}
theorem ok_chk_orders {f : Addr} {fd : FuncData} (F : Fun K "check_orders" "check_orders" s_check_orders f fd) (B : Blt mg) (DI : Df P w K mg base "is_order" 3 P_is_order (spIsOrder K)) (hM : ∃ t, mg "MOST_ORDERS" = some (.int 20 t)) : FnOk P w K mg base CX0 4 f fd P_check_orders spChkOrders := by
  obtain ⟨fI, fdI, gI, kI, bI, GI⟩ := DI
  obtain ⟨tk20, hM⟩ := hM
  refine F.ok sc_check_orders (fun vs H Q E h => ?_) (fun cdv A outer s H vs Q E hr h => ?_)
  · obtain ⟨t, p, h, os, rfl, _⟩ := h
    rfl
  · obtain ⟨t, p, h, os, rfl, N, ⟨ts, ht, hP⟩, q⟩ := h
    refine ⟨_, pss_cons (ps_if (pt_not (pt_val (pe_callB call_isi (by rfl) B.isi PyProof.Rows.boot_isinstance (pa_cons (pv 2) (pa_cons (pe_bltn (v := .ty "tuple") (by rfl) B.tuple (by decide +kernel) rfl) pa_nil))))) (pss_one ps_never) pss_nil)
      (pss_one (ps_for PassesOwn.never rfl (pi_enumT (by rfl) B.enum (pa_cons (pv 2) pa_nil)) (pg_tup (by rfl) (pgs_cons (pg_name (i := 3) sc_check_orders.nd rfl (.inl rfl)) (pgs_cons (pg_name (i := 4) sc_check_orders.nd rfl (.inl rfl)) pgs_nil)))
        (pss_one (ps_if (PW.pt (pw_or (pt_cmpR op_eq (pv 3) (pe_glob (v := .int 20) rfl hM ⟨_, rfl⟩) (nomark _)) (pw_or1 (pt_not (pt_val (pe_call GI hr (by rfl) gI kI bI .nil pass0 (pa_cons (pv 0) (pa_cons (pv 1) (pa_cons (pv 4) pa_nil)))))))))
          (pss_one ps_never) pss_nil)))), ?_⟩
    refine ⟨_, rfl, _, _, _, _, true, rfl, .ty "tuple", .base (.tup ht), kit_ty (by decide +kernel), _, rfl, iteF ?_⟩
    refine ⟨_, rfl, t, ts, rfl, ht, for_enumT (K := K) (a := t) (xs := ts) (fun i σ H' => (∃ x y, σ = [some (.int p), some (.int h), some (.ref t), x, y]) ∧ Same H H') ⟨⟨_, _, rfl⟩, .refl H⟩ (fun i σ H' ⟨_, s1⟩ => s1 _ _ ht) ?_ ?_⟩
    · rintro i x σ H1 T hi ⟨⟨x3, x4, rfl⟩, s1⟩ nT
      have s2 := same_upd (o := HO.tup [.int (i : Nat), x]) nT
      have hil : i < ts.length := (List.getElem?_eq_some_iff.mp hi).1
      have hlen := hP.length
      have hlen2 := N.len
      refine ⟨T, _, rfl, SqT.of upd_same, rfl, _, _, rfl, _, _, rfl, rfl, ?_⟩
      refine ⟨_, rfl, rfl, _, rfl, ?_⟩
      have e1 : decide (V.int ((i : Nat) : Int) = V.int 20) = false := decide_eq_false fun z => by
        have z2 := V.int.inj z
        omega
      rw [e1]
      obtain ⟨x', hx', ho⟩ := Paired.get? (i := i) hP (List.getElem?_eq_getElem (by omega))
      obtain rfl : x' = x := Option.some.inj (hx'.symm.trans hi)
      have hk := N.ok _ (List.getElem_mem (by omega : i < os.length))
      exact iteF ⟨_, rfl, _, rfl, _, rfl, x', p, h, true, rfl, OrdAt.like hk (ho.keep (tk_of (s1.trans s2))), _, rfl, iteF ⟨⟨_, _, rfl⟩, s1.trans s2⟩⟩
    · rintro σ H1 ⟨_, s1⟩
      exact q H1 s1
end
/-! the table of the orders that are followed -/
def amongB (p f : Nat) : Nat → Nat → Bool
  | 0, _ => false
  | l + 1, d => amongB p f l d || decide ((f + l) % p = d)
theorem amongB_iff {p f d : Nat} : ∀ l, amongB p f l d = true ↔ among p f l d
  | 0 => ⟨fun h => Bool.noConfusion h, fun h => absurd h (among_zero _ _ _)⟩
  | l + 1 => by
    show (amongB p f l d || decide ((f + l) % p = d)) = true ↔ _
    rw [among_succ, Bool.or_eq_true, amongB_iff l, decide_eq_true_iff]
def cellV (p : Nat) (os : List Od) (s d : Nat) : V := optV (idx p os s (d : Int))
/-- amid the order o, the k-th: its first l days are done -/
def cellM (p : Nat) (os : List Od) (o : Od) (k l s d : Nat) : V := optV ((idx p os s (d : Int)).or (if (decide (s = o.s) && amongB p o.f l d) = true then some k else none))
structure TabAt (H0 H : Hp) (fl : Addr) (p h : Nat) (g : Nat → Nat → V) (as : List Addr) : Prop where
  same : Same H0 H
  len : as.length = h
  fl0 : H0 fl = none
  flat : H fl = some (.lst (as.map V.ref))
  nd : as.Nodup
  out : fl ∉ as
  new : ∀ a ∈ as, H0 a = none
  row : ∀ i a, as[i]? = some a → H a = some (.lst ((List.range p).map (g i)))
theorem TabAt.congr {H0 H : Hp} {fl : Addr} {p h : Nat} {g g' : Nat → Nat → V} {as : List Addr} (T : TabAt H0 H fl p h g as) (e : ∀ s d, s < h → d < p → g s d = g' s d) : TabAt H0 H fl p h g' as := by
  refine { T with row := fun i a hi => ?_ }
  rw [T.row i a hi]
  have hi2 := (List.getElem?_eq_some_iff.mp hi).1
  rw [List.map_congr_left fun d hd => e i d (by rw [← T.len]; exact hi2) (List.mem_range.mp hd)]
theorem TabAt.keep {H0 H H' : Hp} {fl : Addr} {p h : Nat} {g : Nat → Nat → V} {as : List Addr} (T : TabAt H0 H fl p h g as) (s : Same H H') : TabAt H0 H' fl p h g as :=
  { T with same := T.same.trans s, flat := s _ _ T.flat, row := fun i a hi => s _ _ (T.row i a hi) }
theorem range_set {p dd : Nat} {g : Nat → V} {v : V} : ((List.range p).map g).set dd v = (List.range p).map fun d => if d = dd then v else g d := by
  apply List.ext_getElem
  · simp
  · intro i h1 h2
    rw [List.getElem_set]
    simp only [List.getElem_map, List.getElem_range]
    by_cases z : dd = i
    · subst z; simp
    · rw [if_neg z, if_neg (Ne.symm z)]
theorem TabAt.set {H0 H : Hp} {fl a : Addr} {p h s dd : Nat} {g : Nat → Nat → V} {as : List Addr} {v : V} (T : TabAt H0 H fl p h g as) (ha : as[s]? = some a) :
    TabAt H0 (upd H a (.lst (((List.range p).map (g s)).set dd v))) fl p h (fun i d => if i = s ∧ d = dd then v else g i d) as := by
  have ham : a ∈ as := List.mem_of_getElem? ha
  have sl : s < as.length := (List.getElem?_eq_some_iff.mp ha).1
  refine { T with same := fun b o e => ?_, flat := ?_, row := fun i b hi => ?_ }
  · have n : b ≠ a := fun z => by
      have q := T.new a ham
      rw [← z, e] at q
      cases q
    rw [upd_ne n]
    exact T.same _ _ e
  · have n : fl ≠ a := fun z => T.out (by rw [z]; exact ham)
    rw [upd_ne n]
    exact T.flat
  · by_cases z : i = s
    · subst z
      obtain rfl : b = a := Option.some.inj (hi.symm.trans ha)
      rw [upd_same, range_set]
      congr 2
      apply List.map_congr_left
      intro d _
      by_cases z2 : d = dd
      · simp [z2]
      · simp [z2]
    · have n : b ≠ a := fun z2 => by
        subst z2
        have i1 := (List.getElem?_eq_some_iff.mp hi)
        have i2 := (List.getElem?_eq_some_iff.mp ha)
        obtain ⟨l1, e1⟩ := i1
        obtain ⟨l2, e2⟩ := i2
        have pw := List.pairwise_iff_getElem.mp T.nd
        rcases Nat.lt_or_gt_of_ne z with q | q
        · exact pw i s l1 l2 q (e1.trans e2.symm)
        · exact pw s i l2 l1 q (e2.trans e1.symm)
      rw [upd_ne n, T.row i b hi]
      congr 2
      apply List.map_congr_left
      intro d _
      rw [if_neg (fun q => z q.1)]
def spFollowed : Sp := fun vs H Q _ => ∃ (t : Addr) (p h : Nat) (os : List Od), vs = [.int p, .int h, .ref t] ∧ NetOk p h os ∧ OrdsTup H t os ∧ ∀ H' fl as, TabAt H H' fl p h (cellV p os) as → Q (.ref fl) H'
theorem rep_flat {p : Nat} {v : V} : (List.replicate p [v]).flatten = List.replicate p v := by
  induction p with
  | zero => rfl
  | succ n ih => rw [List.replicate_succ, List.flatten_cons, ih]; rfl
theorem rep_range {p : Nat} {v : V} : List.replicate p v = (List.range p).map fun _ => v := by
  rw [List.map_const', List.length_range]
theorem optV_non {o : Option Nat} (h : optV o = .non) : o = none := by
  cases o with
  | none => rfl
  | some k => cases h
theorem cellM_hit {p i l s d : Nat} {os : List Od} {o : Od} (h : cellM p os o i l o.s ((o.f + l) % p) = .non) :
    (if s = o.s ∧ d = (o.f + l) % p then V.int (i : Nat) else cellM p os o i l s d) = cellM p os o i (l + 1) s d := by
  unfold cellM at *
  by_cases c : s = o.s ∧ d = (o.f + l) % p
  · rw [if_pos c]
    obtain ⟨c1, c2⟩ := c
    subst c1 c2
    have z := optV_non h
    rw [Option.or_eq_none_iff] at z
    rw [z.1]
    have e : (decide (o.s = o.s) && amongB p o.f (l + 1) ((o.f + l) % p)) = true := by
      rw [decide_eq_true rfl, Bool.true_and]
      exact (amongB_iff (l + 1)).mpr (among_succ.mpr (.inr rfl))
    rw [if_pos e]
    rfl
  · rw [if_neg c]
    have e : (decide (s = o.s) && amongB p o.f l d) = (decide (s = o.s) && amongB p o.f (l + 1) d) := by
      by_cases c1 : s = o.s
      · have c2 : ¬ (o.f + l) % p = d := fun z => c ⟨c1, z.symm⟩
        show _ = (_ && (amongB p o.f l d || decide ((o.f + l) % p = d)))
        rw [decide_eq_false c2, Bool.or_false]
      · rw [decide_eq_false c1, Bool.false_and, Bool.false_and]
    rw [e]
theorem cellM_miss {p i l s d : Nat} {os : List Od} {o : Od} (h : cellM p os o i l o.s ((o.f + l) % p) ≠ .non) : cellM p os o i l s d = cellM p os o i (l + 1) s d := by
  by_cases c : s = o.s ∧ d = (o.f + l) % p
  · obtain ⟨c1, c2⟩ := c
    subst c1 c2
    unfold cellM at *
    have e : (decide (o.s = o.s) && amongB p o.f (l + 1) ((o.f + l) % p)) = true := by
      rw [decide_eq_true rfl, Bool.true_and]
      exact (amongB_iff (l + 1)).mpr (among_succ.mpr (.inr rfl))
    rw [if_pos e]
    cases q : idx p os o.s ((o.f + l) % p : Nat) with
    | some k => rfl
    | none =>
      rw [q] at h
      by_cases c : (decide (o.s = o.s) && amongB p o.f l ((o.f + l) % p)) = true
      · rw [if_pos c]
      · rw [if_neg c] at h
        exact absurd rfl h
  · unfold cellM
    have e : (decide (s = o.s) && amongB p o.f l d) = (decide (s = o.s) && amongB p o.f (l + 1) d) := by
      by_cases c1 : s = o.s
      · have c2 : ¬ (o.f + l) % p = d := fun z => c ⟨c1, z.symm⟩
        show _ = (_ && (amongB p o.f l d || decide ((o.f + l) % p = d)))
        rw [decide_eq_false c2, Bool.or_false]
      · rw [decide_eq_false c1, Bool.false_and, Bool.false_and]
    rw [e]
theorem cellM_end {p h i s d : Nat} {os : List Od} {o : Od} (k : OdOk p h o) (hi : os[i]? = some o) (hd : d < p) : cellM p (os.take i) o i o.n s d = cellV p (os.take (i + 1)) s d := by
  unfold cellM cellV
  rw [idx_take_succ hi]
  have e : (decide (s = o.s) && amongB p o.f o.n d) = hit p s (d : Int) o := by
    unfold hit
    have e1 : amongB p o.f o.n d = onDay p o (d : Int) := by
      rw [Bool.eq_iff_iff, amongB_iff, among_on k hd]
    rw [e1]
    by_cases c : s = o.s
    · rw [decide_eq_true c, decide_eq_true c.symm]
    · rw [decide_eq_false c, decide_eq_false fun z => c z.symm]
  rw [e]
abbrev s_find_followed : Stmt := top 32
abbrev N_find_followed : List Str := ["period", "houses", "orders", "followed", "index", "source", "target", "first", "days", "delay", "later", "day", "house"]
abbrev P_find_followed : List Str := ["period", "houses", "orders"]
theorem sc_find_followed : FnScope N_find_followed P_find_followed (defScope s_find_followed) := ⟨rfl, rfl, rfl, by decide +kernel, rfl, by decide +kernel, by decide +kernel⟩
section
variable {P : Program} {w : World} {K : PySem.W.Frag} {mg : Str → Option Value} {base : Heap}
theorem ok_followed {f : Addr} {fd : FuncData} (F : Fun K "find_followed" "find_followed" s_find_followed f fd) (B : Blt mg) : FnOk P w K mg base CX0 2 f fd P_find_followed spFollowed := by
  refine F.ok sc_find_followed (fun vs H Q E h => ?_) (fun cdv A outer s H vs Q E hr h => ?_)
  · obtain ⟨t, p, h, os, rfl, _⟩ := h
    rfl
  · obtain ⟨t, p, h, os, rfl, N, hO, q⟩ := h
    obtain ⟨ts, ht, hP⟩ := id hO
    have p1 := N.p1; have p30 := N.p30; have h1 := N.h1; have h10 := N.h10; have ol := N.len
    refine ⟨_, pss_cons (ps_setLc (i := 3) (own := [("house", 12)]) (g := gName 12) (tt := tYes) (by rfl) sc_find_followed.nd rfl rfl (sw_true rfl rfl rfl (by decide +kernel))
          (pi_range1 rfl B.range (pa_cons (pv 1) pa_nil)) (blkOk_by (N := N_find_followed) (sc := defScope s_find_followed) (by decide +kernel)) (fun _ _ _ _ _ => pg_name (i := 12) sc_find_followed.nd rfl (.inl rfl)) (fun _ _ _ _ _ => pts_nil)
          (fun _ _ _ _ _ => pe_op op_rep (pe_lst (pa_cons pe_non pa_nil)) (pv 0)))
      (pss_cons (ps_for PassesOwn.never rfl (pi_enumT (by rfl) B.enum (pa_cons (pv 2) pa_nil)) (pg_tup (by rfl) (pgs_cons (pg_name (i := 4) sc_find_followed.nd rfl (.inl rfl)) (pgs_cons (pg_tup (by rfl)
            (pgs_cons (pg_name (i := 5) sc_find_followed.nd rfl (.inl rfl)) (pgs_cons (pg_name (i := 6) sc_find_followed.nd rfl (.inl rfl)) (pgs_cons (pg_name (i := 7) sc_find_followed.nd rfl (.inl rfl)) (pgs_cons (pg_name (i := 8) sc_find_followed.nd rfl (.inl rfl)) (pgs_cons (pg_name (i := 9) sc_find_followed.nd rfl (.inl rfl)) pgs_nil)))))) pgs_nil)))
        (pss_one (ps_for PassesOwn.never rfl (pi_range1 rfl B.range (pa_cons (pv 8) pa_nil)) (pg_name (i := 10) sc_find_followed.nd rfl (.inl rfl))
          (pss_cons (ps_set (i := 11) sc_find_followed.nd rfl (.inl rfl) (pe_op op_modN (pe_op op_add (pv 7) (pv 10)) (pv 0)))
          (pss_one (ps_if (pt_cmpR op_isN (pe_ix ix_list (pe_ix ix_list (pv 3) (pv 5) (fun _ _ => rfl)) (pv 11) (fun _ _ => rfl)) pe_non (nomark _))
            (pss_one (ps_asg (pv 4) (pg_sub (pe_ix ix_list (pv 3) (pv 5) (fun _ _ => rfl)) (pv 11) set_list))) pss_nil))))))
      (pss_one (ps_ret (pv 3)))), ?_⟩
    -- the empty table
    refine ⟨_, rfl, h, rfl, by omega, by omega, fun D nD => ?_⟩
    refine lc_range (lo := 0) (n := (h : Int).toNat) (fun i H' => ∃ as, TabAt H H' D p i (fun _ _ => .non) as) ⟨[], same_upd nD, rfl, nD, upd_same, List.nodup_nil, by simp, by simp, fun i a z => by simp at z⟩ ?_ ?_
    · rintro i H' hi ⟨as, T⟩
      refine ⟨rfl, Nat.le_trans (by decide : 1 ≤ 1000) (Nat.le_of_lt (small1000 (Nat.le_refl _))), fun l0 nl0 => ?_⟩
      have T1 := T.keep (same_upd (o := HO.lst [V.non]) nl0)
      refine ⟨_, rfl, l0, p, [.non], rfl, rfl, upd_same, by omega, by omega, Nat.le_of_lt (small1000 (by show 1 * (p : Int).toNat ≤ 1000; omega)), fun r nr => ?_⟩
      have T2 := T1.keep (same_upd (o := HO.lst (List.replicate (p : Int).toNat [V.non]).flatten) nr)
      have fD := T2.flat
      refine ⟨_, fD, small1000 (by rw [List.length_map, T.len]; omega), as ++ [r], ?_⟩
      have nrD : r ≠ D := (ne_of_none T1.flat nr).symm
      have nas : r ∉ as := fun z => by
        obtain ⟨j, hj⟩ := List.getElem?_of_mem z
        exact ne_of_none (T1.row j r hj) nr rfl
      have nr0 : H r = none := T1.same.free nr
      refine ⟨fun b o e => ?_, by rw [List.length_append, T.len]; rfl, T.fl0, ?_, ?_, ?_, ?_, ?_⟩
      · rw [upd_ne (ne_of_none e T.fl0)]
        exact T2.same _ _ e
      · rw [upd_same, List.map_append]
        rfl
      · rw [List.nodup_append]
        exact ⟨T.nd, by simp, fun a ha b hb => by rw [List.mem_singleton.mp hb]; exact fun z => nas (z ▸ ha)⟩
      · intro z
        rcases List.mem_append.mp z with z | z
        · exact T.out z
        · exact nrD (List.mem_singleton.mp z).symm
      · intro a ha
        rcases List.mem_append.mp ha with z | z
        · exact T.new a z
        · rw [List.mem_singleton.mp z]
          exact nr0
      · intro j a hj
        by_cases z : j < as.length
        · rw [List.getElem?_append_left z] at hj
          have hn : a ≠ D := fun z2 => T.out (by rw [← z2]; exact List.mem_of_getElem? hj)
          rw [upd_ne hn]
          exact T2.row j a hj
        · rw [List.getElem?_append_right (by omega)] at hj
          obtain ⟨hj1, hj2⟩ := List.getElem?_eq_some_iff.mp hj
          have e0 : j - as.length = 0 := by
            have : j - as.length < 1 := hj1
            omega
          have ea : a = r := by
            rw [e0] at hj
            exact (Option.some.inj hj).symm
          rw [ea, upd_ne nrD, upd_same, rep_flat, rep_range]
          rfl
    · rintro H1 ⟨as, T⟩
      have hO1 : H1 t = some (.tup ts) := T.same _ _ ht
      -- each order
      refine ⟨_, rfl, t, ts, rfl, hO1, for_enumT (K := K) (a := t) (xs := ts) (fun i σ H' => (∃ x4 x5 x6 x7 x8 x9 x10 x11, σ = [some (.int p), some (.int h), some (.ref t), some (.ref D), x4, x5, x6, x7, x8, x9, x10, x11, none]) ∧ TabAt H H' D p h (cellV p (os.take i)) as)
        ⟨⟨_, _, _, _, _, _, _, _, rfl⟩, by exact T.congr fun s d _ _ => rfl⟩ (fun i σ H' ⟨_, T'⟩ => T'.same _ _ ht) ?_ ?_⟩
      · rintro i x σ H2 X hi ⟨⟨x4, x5, x6, x7, x8, x9, x10, x11, rfl⟩, T2⟩ nX
        have T3 := T2.keep (same_upd (o := HO.tup [.int (i : Nat), x]) nX)
        have hil : i < ts.length := (List.getElem?_eq_some_iff.mp hi).1
        have hlen := hP.length
        have hio : os[i]? = some (os[i]'(by omega)) := List.getElem?_eq_getElem (by omega)
        obtain ⟨x', hx', y, rfl, hy⟩ := Paired.get? (i := i) hP hio
        obtain rfl : V.ref y = x := Option.some.inj (hx'.symm.trans hi)
        generalize eo : os[i]'(by omega) = o at hio hy
        have hk : OdOk p h o := by rw [← eo]; exact N.ok _ (List.getElem_mem _)
        have k1 := hk.s; have k4 := hk.f; have k5 := hk.n1; have k6 := hk.n
        have hy3 := T3.same _ _ hy
        refine ⟨X, _, rfl, SqT.of upd_same, rfl, _, _, rfl, _, _, rfl, ⟨y, _, rfl, SqT.of hy3, rfl, _, _, rfl, _, _, rfl, _, _, rfl, _, _, rfl, _, _, rfl, rfl, rfl, ?_⟩⟩
        refine ⟨_, rfl, o.n, rfl, by omega, by omega, for_range (lo := 0) (n := (o.n : Int).toNat) (fun l σ H' => (∃ x10 x11, σ = [some (.int p), some (.int h), some (.ref t), some (.ref D), some (.int (i : Nat)), some (.int o.s), some (.int o.t), some (.int o.f), some (.int o.n), some (.int o.e), x10, x11, none]) ∧ TabAt H H' D p h (cellM p (os.take i) o i l) as)
          ⟨⟨_, _, rfl⟩, T3.congr fun s d _ _ => ?_⟩ ?_ ?_⟩
        · show optV (idx p (os.take i) s d) = optV ((idx p (os.take i) s d).or (if (decide (s = o.s) && false) = true then some i else none))
          rw [Bool.and_false, if_neg Bool.false_ne_true, Option.or_none]
        · rintro l σ H4 hl ⟨⟨x10, x11, rfl⟩, T4⟩
          have hl2 : l < o.n := by omega
          refine ⟨_, rfl, _, rfl, _, _, rfl, rfl, _, rfl, _, _, rfl, rfl, by omega, ?_⟩
          have ed : Int.fmod ((o.f : Int) + (0 + (l : Int))) (p : Int) = (((o.f + l) % p : Nat) : Int) := by
            rw [Int.zero_add]
            exact fmod_nat (o.f + l) p
          have hd : (o.f + l) % p < p := Nat.mod_lt _ (by omega)
          generalize hdd : (o.f + l) % p = dd at ed hd
          have hsl : o.s < as.length := by rw [T4.len]; exact k1
          have ha := List.getElem?_eq_getElem hsl
          generalize as[o.s] = a at ha
          have hmap : (as.map V.ref)[o.s]? = some (.ref a) := by rw [List.getElem?_map, ha]; rfl
          have hrow := T4.row _ _ ha
          have hcell : ((List.range p).map (cellM p (os.take i) o i l o.s))[dd]? = some (cellM p (os.take i) o i l o.s dd) := by
            rw [List.getElem?_map, List.getElem?_range hd]
            rfl
          show ∃ v, _
          refine ⟨_, rfl, _, rfl, D, _, _, _, rfl, rfl, SqL.of T4.flat, atI_nat hmap, ?_⟩
          refine ⟨_, rfl, a, _, (dd : Int), _, rfl, by rw [← ed], SqL.of hrow, atI_nat hcell, ?_⟩
          refine ⟨rfl, _, rfl, ite2 (fun e => ?_) (fun e => ?_)⟩
          · have en : cellM p (os.take i) o i l o.s dd = .non := of_decide_eq_true e
            refine ⟨_, rfl, _, rfl, _, rfl, D, _, _, _, rfl, rfl, SqL.of T4.flat, atI_nat hmap, ?_⟩
            refine ⟨_, rfl, a, _, (dd : Int), dd, rfl, by rw [← ed], hrow, ix_at (by rw [List.length_map, List.length_range]; exact hd), ?_⟩
            refine ⟨⟨_, _, rfl⟩, (T4.set ha).congr fun s d hs hd2 => ?_⟩
            subst hdd
            exact cellM_hit en
          · refine ⟨⟨_, _, rfl⟩, T4.congr fun s d hs hd2 => ?_⟩
            subst hdd
            exact cellM_miss (fun z => e (decide_eq_true z))
        · rintro σ H4 ⟨⟨x10, x11, rfl⟩, T4⟩
          exact ⟨⟨_, _, _, _, _, _, _, _, rfl⟩, T4.congr fun s d hs hd => cellM_end hk hio hd⟩
      · rintro σ H2 ⟨⟨x4, x5, x6, x7, x8, x9, x10, x11, rfl⟩, T2⟩
        refine ⟨_, rfl, q _ D as (T2.congr fun s d _ _ => ?_)⟩
        rw [List.take_of_length_le (by rw [← hP.length]; exact Nat.le_refl _)]
end
abbrev s_Net_init : Stmt := inClass (top 29) 0
abbrev N_Net_init : List Str := ["self", "period", "houses", "orders"]
abbrev P_Net_init : List Str := ["self", "period", "houses", "orders"]
theorem sc_Net_init : FnScope N_Net_init P_Net_init (defScope s_Net_init) := ⟨rfl, rfl, rfl, by decide +kernel, rfl, by decide +kernel, by decide +kernel⟩
/-! ### a net, made and read -/
def NetFs (p h : Nat) (t fl : Addr) : List (Str × V) := putF "followed" (.ref fl) (putF "orders" (.ref t) (putF "houses" (.int h) (putF "period" (.int p) [])))
theorem sFO : ¬ ("orders" : Str) = "followed" := by decide +kernel
theorem sFH : ¬ ("houses" : Str) = "followed" := by decide +kernel
theorem sFP : ¬ ("period" : Str) = "followed" := by decide +kernel
theorem sOH : ¬ ("houses" : Str) = "orders" := by decide +kernel
theorem sOP : ¬ ("period" : Str) = "orders" := by decide +kernel
theorem sHP : ¬ ("period" : Str) = "houses" := by decide +kernel
theorem nf_fl {p h : Nat} {t fl : Addr} : (NetFs p h t fl).lookup ("followed" : Str) = some (.ref fl) := by
  unfold NetFs
  rw [lookup_putF, if_pos rfl]
theorem nf_or {p h : Nat} {t fl : Addr} : (NetFs p h t fl).lookup ("orders" : Str) = some (.ref t) := by
  unfold NetFs
  rw [lookup_putF, if_neg sFO, lookup_putF, if_pos rfl]
theorem nf_ho {p h : Nat} {t fl : Addr} : (NetFs p h t fl).lookup ("houses" : Str) = some (.int h) := by
  unfold NetFs
  rw [lookup_putF, if_neg sFH, lookup_putF, if_neg sOH, lookup_putF, if_pos rfl]
theorem nf_pe {p h : Nat} {t fl : Addr} : (NetFs p h t fl).lookup ("period" : Str) = some (.int p) := by
  unfold NetFs
  rw [lookup_putF, if_neg sFP, lookup_putF, if_neg sOP, lookup_putF, if_neg sHP, lookup_putF, if_pos rfl]
theorem nf_no {p h : Nat} {t fl : Addr} {m : Str} (h1 : ¬ m = "followed") (h2 : ¬ m = "orders") (h3 : ¬ m = "houses") (h4 : ¬ m = "period") : (NetFs p h t fl).lookup m = none := by
  unfold NetFs
  rw [lookup_putF, if_neg h1, lookup_putF, if_neg h2, lookup_putF, if_neg h3, lookup_putF, if_neg h4]
  rfl
/-- what the class says -/
structure NetT (K : PySem.W.Frag) (C : Addr) : Prop where
  cl : Cls K C
  nP : NoAttr K C "period"
  nH : NoAttr K C "houses"
  nO : NoAttr K C "orders"
  nF : NoAttr K C "followed"
/-- a net of these parts at x; F: its own addresses -/
def NetAt (C : Addr) (H : Hp) (x : Addr) (p h : Nat) (os : List Od) (t : Addr) (F : List Addr) : Prop := ∃ dx fl as, F = x :: fl :: as ∧ H x = some (.ins C dx (NetFs p h t fl)) ∧ OrdsTup H t os ∧
  H fl = some (.lst (as.map V.ref)) ∧ as.length = h ∧ ∀ i a, as[i]? = some a → H a = some (.lst ((List.range p).map (cellV p os i)))
theorem NetAt.keep {C : Addr} {H H' : Hp} {x : Addr} {p h : Nat} {os : List Od} {t : Addr} {F : List Addr} (N : NetAt C H x p h os t F) (k : TupKeep H H') (kf : ∀ b ∈ F, ∀ o, H b = some o → H' b = some o) : NetAt C H' x p h os t F := by
  obtain ⟨dx, fl, as, rfl, h1, h2, h3, h4, h5⟩ := N
  refine ⟨dx, fl, as, rfl, kf _ (by simp) _ h1, h2.keep k, kf _ (by simp) _ h3, h4, fun i a hi => kf _ ?_ _ (h5 i a hi)⟩
  exact List.mem_cons_of_mem _ (List.mem_cons_of_mem _ (List.mem_of_getElem? hi))
theorem NetAt.same {C : Addr} {H H' : Hp} {x : Addr} {p h : Nat} {os : List Od} {t : Addr} {F : List Addr} (N : NetAt C H x p h os t F) (s : Same H H') : NetAt C H' x p h os t F := N.keep (tk_of s) fun b _ o e => s b o e
theorem NetAt.but {C : Addr} {H H' : Hp} {x : Addr} {p h : Nat} {os : List Od} {t d : Addr} {F : List Addr} (N : NetAt C H x p h os t F) (s : But d H H') (k : TupKeep H H') (n : d ∉ F) : NetAt C H' x p h os t F := N.keep k fun b hb o e => s b o (fun z => n (z ▸ hb)) e
theorem NetAt.new {C : Addr} {H : Hp} {x : Addr} {p h : Nat} {os : List Od} {t u : Addr} {F : List Addr} (N : NetAt C H x p h os t F) (n : H u = none) : u ∉ F := by
  obtain ⟨dx, fl, as, rfl, h1, h2, h3, h4, h5⟩ := N
  intro z
  rcases List.mem_cons.mp z with z | z
  · exact ne_of_none h1 n z.symm
  rcases List.mem_cons.mp z with z | z
  · exact ne_of_none h3 n z.symm
  obtain ⟨j, hj⟩ := List.getElem?_of_mem z
  exact ne_of_none (h5 j u hj) n rfl
def spInit (C : Addr) : Sp := fun vs H Q _ => ∃ (x dx t : Addr) (p h : Nat) (os : List Od) (H0 : Hp), vs = [.ref x, .int p, .int h, .ref t] ∧ NetOk p h os ∧ OrdsTup H t os ∧ Same H0 H ∧ H0 x = none ∧ H x = some (.ins C dx []) ∧
  ∀ H' F, Same H0 H' → (∀ b ∈ F, H0 b = none) → NetAt C H' x p h os t F → Q .non H'
section
variable {P : Program} {w : World} {K : PySem.W.Frag} {mg : Str → Option Value} {base : Heap}
theorem ok_init {f C : Addr} {fd : FuncData} (F : Fun K "__init__" "Net.__init__" s_Net_init f fd) (T : NetT K C) (DW : Df P w K mg base "is_within" 2 P_is_within (spWithin K)) (DC : Df P w K mg base "check_orders" 4 P_check_orders spChkOrders)
    (DF : Df P w K mg base "find_followed" 2 P_find_followed spFollowed) (hP : ∃ t, mg "LONGEST_PERIOD" = some (.int 30 t)) (hH : ∃ t, mg "MOST_HOUSES" = some (.int 10 t)) : FnOk P w K mg base CX0 5 f fd P_Net_init (spInit C) := by
  obtain ⟨fW, fdW, gW, kW, bW, GW⟩ := DW
  obtain ⟨fC, fdC, gC, kC, bC, GC⟩ := DC
  obtain ⟨fF, fdF, gF, kF, bF, GF⟩ := DF
  obtain ⟨tkP, hP⟩ := hP
  obtain ⟨tkH, hH⟩ := hH
  refine F.ok sc_Net_init (fun vs H Q E h => ?_) (fun cdv A outer s H vs Q E hr h => ?_)
  · obtain ⟨x, dx, t, p, h, os, H0, rfl, _⟩ := h
    rfl
  · obtain ⟨x, dx, t, p, h, os, H0, rfl, N, hO, s0, x0, hx, q⟩ := h
    have hr1 : Room 2 _ := hr.mono (by decide)
    refine ⟨_, pss_cons (ps_if (pt_not (pt_val (pe_call GW hr1 (by rfl) gW kW bW .nil pass0 (pa_cons (pv 1) (pa_cons pe_int (pa_cons (pe_glob (v := .int 30) rfl hP ⟨_, rfl⟩) pa_nil)))))) (pss_one ps_never) pss_nil)
      (pss_cons (ps_if (pt_not (pt_val (pe_call GW hr1 (by rfl) gW kW bW .nil pass0 (pa_cons (pv 2) (pa_cons pe_int (pa_cons (pe_glob (v := .int 10) rfl hH ⟨_, rfl⟩) pa_nil)))))) (pss_one ps_never) pss_nil)
      (pss_cons (ps_expr (pe_call GC hr (by rfl) gC kC bC .nil pass0 (pa_cons (pv 1) (pa_cons (pv 2) (pa_cons (pv 3) pa_nil)))))
      (pss_cons (ps_fld (pv 0) (pv 1) rfl) (pss_cons (ps_fld (pv 0) (pv 2) rfl) (pss_cons (ps_fld (pv 0) (pv 3) rfl)
      (pss_one (ps_fld (pv 0) (pe_call GF hr1 (by rfl) gF kF bF .nil pass0 (pa_cons (pv 1) (pa_cons (pv 2) (pa_cons (pv 3) pa_nil)))) rfl))))))), ?_⟩
    have w1 : withinB (.int p) 1 30 = true := within_nat (lo := 1) (hi := 30) N.p1 N.p30
    have w2 : withinB (.int h) 1 10 = true := within_nat (lo := 1) (hi := 10) N.h1 N.h10
    refine ⟨_, rfl, .int p, 1, 30, rfl, .int, _, rfl, ?_⟩
    rw [w1]
    refine iteF ⟨_, rfl, .int h, 1, 10, rfl, .int, _, rfl, ?_⟩
    rw [w2]
    refine iteF ⟨_, rfl, _, rfl, _, rfl, t, p, h, os, rfl, N, hO, fun H1 s1 => ?_⟩
    have hx1 := s1 _ _ hx
    have nt : t ≠ x := by
      obtain ⟨ts, ht, _⟩ := hO
      exact ne_of ht hx (by intro z; cases z)
    refine ⟨_, rfl, _, rfl, x, C, dx, [], rfl, hx1, T.cl, T.nP, (by show 0 < 1000; decide), ?_⟩
    refine ⟨_, rfl, _, rfl, x, C, dx, _, rfl, upd_same, T.cl, T.nH, (by show 1 < 1000; decide), ?_⟩
    refine ⟨_, rfl, _, rfl, x, C, dx, _, rfl, upd_same, T.cl, T.nO, ?_, ?_⟩
    · show (putF "houses" _ (putF "period" _ [])).length < 1000
      have : (putF "houses" (.int (h : Int)) (putF "period" (.int (p : Int)) [])).length ≤ 2 := by
        show (if ("period" : Str) = "houses" then _ else _ : List (Str × V)).length ≤ 2
        rw [if_neg sHP]
        exact Nat.le_refl _
      omega
    rw [upd_upd, upd_upd]
    refine ⟨_, rfl, _, rfl, _, rfl, t, p, h, os, rfl, N, ?_, fun H2 fl as TT => ?_⟩
    · refine hO.keep fun b xs e => ?_
      have e1 := s1 _ _ e
      rw [upd_ne (ne_of e1 hx1 (by intro z; cases z))]
      exact e1
    have hx2 := TT.same _ _ (upd_same (H := H1) (a := x))
    have hflx : fl ≠ x := fun z => by
      have q1 := TT.fl0
      rw [z, upd_same] at q1
      cases q1
    have hasx : ∀ a ∈ as, a ≠ x := fun a ha z => by
      have q1 := TT.new a ha
      rw [z, upd_same] at q1
      cases q1
    refine ⟨_, rfl, x, C, dx, _, rfl, hx2, T.cl, T.nF, ?_, ?_⟩
    · show (putF "orders" _ (putF "houses" _ (putF "period" _ []))).length < 1000
      have : (putF "orders" (.ref t) (putF "houses" (.int (h : Int)) (putF "period" (.int (p : Int)) []))).length ≤ 3 := by
        show (putF "orders" (V.ref t) (if ("period" : Str) = "houses" then _ else _ : List (Str × V))).length ≤ 3
        rw [if_neg sHP]
        show (if ("period" : Str) = "orders" then _ else _ :: (if ("houses" : Str) = "orders" then _ else _) : List (Str × V)).length ≤ 3
        rw [if_neg sOP, if_neg sOH]
        exact Nat.le_refl _
      omega
    have free : ∀ b, b ≠ x → (L2.upd H1 x (.ins C dx (putF "orders" (.ref t) (putF "houses" (.int (h : Int)) (putF "period" (.int (p : Int)) []))))) b = none → H0 b = none := fun b nb e => by
      rw [upd_ne nb] at e
      exact s0.free (s1.free e)
    refine q _ (x :: fl :: as) (fun b o e => ?_) (fun b hb => ?_) ⟨dx, fl, as, rfl, upd_same, ?_, ?_, TT.len, fun i a hi => ?_⟩
    · have nb : b ≠ x := ne_of_none e x0
      rw [upd_ne nb]
      refine TT.same _ _ ?_
      rw [upd_ne nb]
      exact s1 _ _ (s0 _ _ e)
    · rcases List.mem_cons.mp hb with z | z
      · rw [z]; exact x0
      rcases List.mem_cons.mp z with z | z
      · rw [z]; exact free fl hflx TT.fl0
      · exact free b (hasx b z) (TT.new b z)
    · refine hO.keep fun b xs e => ?_
      have e1 := s1 _ _ e
      have nb : b ≠ x := ne_of e1 hx1 (by intro z; cases z)
      rw [upd_ne nb]
      refine TT.same _ _ ?_
      rw [upd_ne nb]
      exact e1
    · rw [upd_ne hflx]
      exact TT.flat
    · rw [upd_ne (hasx a (List.mem_of_getElem? hi))]
      exact TT.row i a hi
end
/-! ### the table, read -/
/-- where the table is read: followed[a][d % period] -/
theorem cell_read {C : Addr} {H : Hp} {x t : Addr} {p h a : Nat} {os : List Od} {F : List Addr} (N : NetAt C H x p h os t F) (ha : a < h) (hp : 0 < p) (d : Nat) : ∃ dx fl rows ro row, H x = some (.ins C dx (NetFs p h t fl)) ∧ H fl = some (.lst rows) ∧ rows[a]? = some (.ref ro) ∧ H ro = some (.lst row) ∧
    row[d % p]? = some (optV (idx p os a (d : Int))) := by
  obtain ⟨dx, fl, as, _, hx, _, hfl, hlen, hr⟩ := N
  have hal : a < as.length := by omega
  have e := List.getElem?_eq_getElem hal
  refine ⟨dx, fl, _, as[a], _, hx, hfl, by rw [List.getElem?_map, e]; rfl, hr a _ e, ?_⟩
  rw [List.getElem?_map, List.getElem?_range (Nat.mod_lt _ hp)]
  show some (optV (idx p os a ((d % p : Nat) : Int))) = _
  rw [idx_nat]
/-! ### stops and what is still to come: plain -/
def StopAt (H : Hp) (v : V) (s : Nat × Nat) : Prop := ∃ u, v = .ref u ∧ H u = some (.tup [.int s.1, .int s.2])
theorem StopAt.keep {H H' : Hp} {v : V} {s : Nat × Nat} (k : TupKeep H H') (h : StopAt H v s) : StopAt H' v s := by
  obtain ⟨u, e, hu⟩ := h
  exact ⟨u, e, k _ _ hu⟩
theorem StopsAt.keep {H H' : Hp} {vs : List V} {l : List (Nat × Nat)} (k : TupKeep H H') (h : Paired (StopAt H) vs l) : Paired (StopAt H') vs l := Paired.mapP h fun _ _ q => q.keep k
/-- what is still to come from a stop (or none) -/
def rest (p : Nat) (os : List Od) (n : Nat) : Option (Nat × Nat) → List (Nat × Nat)
  | none => []
  | some s => way p os n s
theorem rest_succ (p : Nat) (os : List Od) (n : Nat) (s : Nat × Nat) : rest p os (n + 1) (some s) = s :: rest p os n (hop p os s) := by
  show way p os (n + 1) s = _
  unfold way
  cases hop p os s <;> rfl
theorem rest_zero (p : Nat) (os : List Od) (o : Option (Nat × Nat)) : rest p os 0 o = [] := by cases o <;> rfl
theorem hop_house {p h : Nat} {os : List Od} {s s' : Nat × Nat} (k : NetOk p h os) (e : hop p os s = some s') : s'.1 < h := by
  unfold hop at e
  cases q : idx p os s.1 (s.2 : Int) with
  | none =>
    rw [q] at e
    cases e
  | some j =>
    simp only [q] at e
    have hj := idx_lt q
    rw [List.getElem?_eq_getElem hj] at e
    rw [← Option.some.inj e]
    exact (k.ok _ (List.getElem_mem hj)).t
/-! ### ways: plain -/
theorem way_len (p : Nat) (os : List Od) : ∀ (n : Nat) (st : Nat × Nat), (way p os n st).length ≤ n
  | 0, _ => Nat.le_refl _
  | n + 1, st => by
    show (way p os (n + 1) st).length ≤ n + 1
    rw [show way p os (n + 1) st = rest p os (n + 1) (some st) from rfl, rest_succ]
    cases h : hop p os st with
    | none => exact Nat.succ_le_succ (Nat.zero_le _)
    | some s' => exact Nat.succ_le_succ (way_len p os n s')
theorem way_house {p h : Nat} {os : List Od} (k : NetOk p h os) : ∀ {n : Nat} {st : Nat × Nat}, st.1 < h → ∀ s ∈ way p os n st, s.1 < h
  | 0, _, _, _, hm => by cases hm
  | n + 1, st, h0, s, hm => by
    rw [show way p os (n + 1) st = rest p os (n + 1) (some st) from rfl, rest_succ] at hm
    rcases List.mem_cons.mp hm with e | hm
    · rw [e]; exact h0
    · cases q : hop p os st with
      | none => rw [q] at hm; cases hm
      | some s' =>
        rw [q] at hm
        exact way_house k (hop_house k q) s hm
/-- the i-th stop, by going on from it -/
theorem way_drop {p : Nat} {os : List Od} : ∀ {n i : Nat} {st s : Nat × Nat}, (way p os n st)[i]? = some s → (way p os n st).drop i = way p os (n - i) s
  | 0, _, _, _, h => by cases h
  | n + 1, 0, st, s, h => by
    have e : st = s := Option.some.inj h
    subst e
    rfl
  | n + 1, i + 1, st, s, h => by
    have e : way p os (n + 1) st = st :: rest p os n (hop p os st) := rest_succ p os n st
    rw [e] at h ⊢
    rw [List.getElem?_cons_succ] at h
    rw [List.drop_succ_cons, Nat.succ_sub_succ]
    cases q : hop p os st with
    | none => rw [q] at h; cases h
    | some s' =>
      rw [q] at h
      exact way_drop h
/-! ### a letter followed to its end -/
def plc (p : Nat) (s : Nat × Nat) : Nat × Nat := (s.1, s.2 % p)
/-- the stops up to the first that comes back to an earlier one's place, and that one's index -/
def fol (p : Nat) : List (Nat × Nat) → List (Nat × Nat) → List (Nat × Nat) × Option Nat
  | done, [] => (done, none)
  | done, s :: r => match done.findIdx? (fun t => decide (plc p t = plc p s)) with
    | some b => (done ++ [s], some b)
    | none => fol p (done ++ [s]) r
def folR (p h : Nat) (os : List Od) (st : Nat × Nat) : List (Nat × Nat) × Option Nat := fol p [] (way p os (h * p + 1) st)
def keyOf (p : Nat) (s : Nat × Nat) : List Key := [Sum.inl (s.1 : Int), Sum.inl ((s.2 % p : Nat) : Int)]
def kvsFrom (p : Nat) : Nat → List (Nat × Nat) → List (List Key × V)
  | _, [] => []
  | k, s :: r => (keyOf p s, .int (k : Nat)) :: kvsFrom p (k + 1) r
theorem keyOf_eq {p : Nat} {s t : Nat × Nat} : keyOf p t = keyOf p s ↔ plc p t = plc p s := by
  unfold keyOf plc
  constructor
  · intro h
    have h1 : (t.1 : Int) = s.1 := Sum.inl.inj (List.cons.inj h).1
    have h2 : ((t.2 % p : Nat) : Int) = ((s.2 % p : Nat) : Int) := Sum.inl.inj (List.cons.inj (List.cons.inj h).2).1
    exact Prod.ext (by show t.1 = s.1; omega) (by show t.2 % p = s.2 % p; omega)
  · intro h
    have h1 : t.1 = s.1 := (Prod.mk.inj h).1
    have h2 : t.2 % p = s.2 % p := (Prod.mk.inj h).2
    rw [h1, h2]
theorem kvs_val {p : Nat} {s : Nat × Nat} : ∀ (l : List (Nat × Nat)) (k : Nat), valV (kvsFrom p k l) (keyOf p s) = (l.findIdx? fun t => decide (plc p t = plc p s)).map fun i => V.int ((k + i : Nat) : Int)
  | [], _ => rfl
  | t :: r, k => by
    rw [List.findIdx?_cons]
    unfold kvsFrom valV
    rw [List.find?_cons]
    by_cases c : plc p t = plc p s
    · have c2 : keyOf p t = keyOf p s := keyOf_eq.mpr c
      simp only [c, c2, decide_true, if_true, Option.map_some]
      rfl
    · have c2 : ¬ keyOf p t = keyOf p s := fun z => c (keyOf_eq.mp z)
      simp only [c, c2, decide_false, Bool.false_eq_true, if_false]
      have ih := kvs_val (p := p) (s := s) r (k + 1)
      unfold valV at ih
      rw [ih, Option.map_map]
      congr 1
      funext i
      show V.int ((k + 1 + i : Nat) : Int) = V.int ((k + (i + 1) : Nat) : Int)
      rw [show k + 1 + i = k + (i + 1) by omega]
theorem kvs_len {p : Nat} : ∀ (l : List (Nat × Nat)) (k : Nat), (kvsFrom p k l).length = l.length
  | [], _ => rfl
  | _ :: r, k => by
    show (kvsFrom p (k + 1) r).length + 1 = r.length + 1
    rw [kvs_len r (k + 1)]
theorem kvs_snoc {p : Nat} {s : Nat × Nat} : ∀ (l : List (Nat × Nat)) (k : Nat), kvsFrom p k (l ++ [s]) = kvsFrom p k l ++ [(keyOf p s, .int ((k + l.length : Nat) : Int))]
  | [], _ => rfl
  | t :: r, k => by
    show (keyOf p t, V.int (k : Nat)) :: kvsFrom p (k + 1) (r ++ [s]) = _
    rw [kvs_snoc r (k + 1)]
    show _ = (keyOf p t, V.int (k : Nat)) :: (kvsFrom p (k + 1) r ++ [(keyOf p s, V.int ((k + (r.length + 1) : Nat) : Int))])
    rw [show k + 1 + r.length = k + (r.length + 1) by omega]
theorem putK_new {κ : Type} [DecidableEq κ] {kvs : List (κ × V)} {k : κ} {v : V} (h : valV kvs k = none) : putK kvs k v = kvs ++ [(k, v)] := by
  unfold putK
  have e : (kvs.any fun kv => decide (kv.1 = k)) = false := by
    unfold valV at h
    rw [Option.map_eq_none_iff, List.find?_eq_none] at h
    rw [List.any_eq_false]
    exact h
  rw [e, if_neg Bool.false_ne_true]
theorem pair_last {α β : Type} {F : α → β → Prop} {y : α} {s : β} : ∀ {xs : List α} {l : List β}, Paired F (xs ++ [y]) (l ++ [s]) → F y s
  | [], [], h => by cases h with | cons r _ => exact r
  | [], b :: l, h => by
    cases h with
    | cons _ t =>
      have := t.length
      simp at this
  | a :: xs, [], h => by
    cases h with
    | cons _ t =>
      have := t.length
      simp at this
  | a :: xs, b :: l, h => by
    cases h with
    | cons _ t => exact pair_last t
theorem pair_split {α β : Type} {F : α → β → Prop} {s : β} : ∀ {l : List β} {xs : List α}, Paired F xs (l ++ [s]) → ∃ ys v, xs = ys ++ [v] ∧ Paired F ys l ∧ F v s
  | [], _, h => by
    cases h with
    | cons r t =>
      cases t
      exact ⟨[], _, rfl, .nil, r⟩
  | b :: l, _, h => by
    cases h with
    | cons r t =>
      obtain ⟨ys, v, rfl, h1, h2⟩ := pair_split t
      exact ⟨_ :: ys, v, rfl, .cons r h1, h2⟩
/-- what follow gives: the stops' list, the index -/
def FolAt (H H' : Hp) (r : Addr) (res : List (Nat × Nat) × Option Nat) : Prop := ∃ sl vs, H r = none ∧ H' r = some (.tup [.ref sl, optV res.2]) ∧ H sl = none ∧ H' sl = some (.lst vs) ∧ Paired (StopAt H') vs res.1
/-! ### cuts -/
theorem cut_from {xs : List V} {n : Nat} : cutV xs (some (n : Int)) none = xs.drop n := by
  unfold cutV
  rw [HT.sIx_nat, HT.sIx_none]
  by_cases c : n ≤ xs.length
  · rw [Nat.min_eq_left c, List.take_of_length_le (by rw [List.length_drop]; exact Nat.le_refl _)]
  · rw [Nat.min_eq_right (by omega), Nat.sub_self, List.take_zero, List.drop_eq_nil_iff.mpr (by omega)]
theorem cut_to {xs : List V} {n : Nat} : cutV xs none (some (n : Int)) = xs.take n := by
  unfold cutV
  rw [HT.sIx_none, HT.sIx_nat, List.drop_zero, Nat.sub_zero]
  by_cases c : n ≤ xs.length
  · rw [Nat.min_eq_left c]
  · rw [Nat.min_eq_right (by omega), List.take_of_length_le (Nat.le_refl _), List.take_of_length_le (by omega)]
/-! ### stops followed: plain mathematics -/
theorem fol_ne {p : Nat} : ∀ (l d : List (Nat × Nat)), (d ≠ [] ∨ l ≠ []) → (fol p d l).1 ≠ []
  | [], d, h => by
    rcases h with h | h
    · exact h
    · exact absurd rfl h
  | s :: r, d, _ => by
    unfold fol
    cases (d.findIdx? fun t => decide (plc p t = plc p s)) with
    | some b => simp
    | none => exact fol_ne r (d ++ [s]) (.inl (by simp))
theorem fol_len {p : Nat} : ∀ (l d : List (Nat × Nat)), (fol p d l).1.length ≤ d.length + l.length
  | [], d => by
    show d.length ≤ _
    omega
  | s :: r, d => by
    unfold fol
    cases (d.findIdx? fun t => decide (plc p t = plc p s)) with
    | some b =>
      show (d ++ [s]).length ≤ _
      rw [List.length_append, List.length_singleton, List.length_cons]
      omega
    | none =>
      have := fol_len (p := p) r (d ++ [s])
      rw [List.length_append, List.length_singleton] at this
      rw [List.length_cons]
      show (fol p (d ++ [s]) r).1.length ≤ _
      omega
theorem folR_ne {p h : Nat} {os : List Od} {st : Nat × Nat} : (folR p h os st).1 ≠ [] := by
  unfold folR
  refine fol_ne _ _ (.inr ?_)
  show way p os (h * p + 1) st ≠ []
  rw [show way p os (h * p + 1) st = rest p os (h * p + 1) (some st) from rfl, rest_succ]
  exact List.cons_ne_nil _ _
theorem folR_len {p h : Nat} {os : List Od} {st : Nat × Nat} : (folR p h os st).1.length ≤ h * p + 1 := by
  have h1 := fol_len (p := p) (way p os (h * p + 1) st) []
  have h2 := way_len p os (h * p + 1) st
  unfold folR
  simp only [List.length_nil, Nat.zero_add] at h1
  exact Nat.le_trans h1 h2
theorem small301 {p h : Nat} {os : List Od} (k : NetOk p h os) : h * p + 1 ≤ 301 := by
  have : h * p ≤ 10 * 30 := Nat.mul_le_mul k.h10 k.p30
  omega
theorem optV_isN {o : Option Nat} : decide (optV o = .non) = o.isNone := by cases o <;> rfl
theorem pair_drop {α β : Type} {F : α → β → Prop} {xs : List α} {l : List β} (h : Paired F xs l) : ∀ n, Paired F (xs.drop n) (l.drop n) := by
  induction h with
  | nil =>
    intro n
    rw [List.drop_nil, List.drop_nil]
    exact .nil
  | cons r t ih =>
    intro n
    cases n with
    | zero => exact .cons r t
    | succ n => exact ih n
theorem nodup_bound : ∀ (n : Nat) (l : List Nat), l.Nodup → (∀ x ∈ l, x < n) → l.length ≤ n
  | 0, [], _, _ => Nat.le_refl _
  | 0, x :: l, _, h => absurd (h x List.mem_cons_self) (Nat.not_lt_zero _)
  | n + 1, l, nd, h => by
    by_cases c : n ∈ l
    · have h1 : (l.erase n).length ≤ n := nodup_bound n (l.erase n) (nd.erase n) fun x hx => by
        have h2 := (List.Nodup.mem_erase_iff nd).mp hx
        have h3 := h x h2.2
        have h4 : x ≠ n := h2.1
        omega
      have h2 := List.length_erase_of_mem c
      omega
    · have h1 : l.length ≤ n := nodup_bound n l nd fun x hx => by
        have h3 := h x hx
        have h4 : x ≠ n := fun e => c (e ▸ hx)
        omega
      omega
/-- stops at different places are few -/
theorem places_bound {p h : Nat} {l : List (Nat × Nat)} (hp : 0 < p) (hh : ∀ s ∈ l, s.1 < h) (nd : (l.map (plc p)).Nodup) : l.length ≤ h * p := by
  have e : (l.map fun s => s.1 * p + s.2 % p).length = l.length := List.length_map _
  rw [← e]
  refine nodup_bound (h * p) _ ?_ ?_
  · have e2 : (l.map fun s => s.1 * p + s.2 % p) = (l.map (plc p)).map fun s => s.1 * p + s.2 := by
      rw [List.map_map]
      rfl
    rw [e2]
    have lt : ∀ s ∈ l.map (plc p), s.2 < p := fun s hs => by
      obtain ⟨t, _, rfl⟩ := List.mem_map.mp hs
      exact Nat.mod_lt _ hp
    generalize l.map (plc p) = ps at nd lt
    clear e e2 hh
    induction ps with
    | nil => exact List.nodup_nil
    | cons s r ih =>
      rw [List.nodup_cons] at nd
      rw [List.map_cons, List.nodup_cons]
      refine ⟨fun hm => ?_, ih nd.2 fun t ht => lt t (List.mem_cons_of_mem _ ht)⟩
      obtain ⟨t, ht, et⟩ := List.mem_map.mp hm
      have l1 := lt s List.mem_cons_self
      have l2 := lt t (List.mem_cons_of_mem _ ht)
      have q1 : t.1 = s.1 := by
        have a1 : (t.1 * p + t.2) / p = (s.1 * p + s.2) / p := by rw [et]
        rw [Nat.mul_comm t.1, Nat.mul_comm s.1, Nat.mul_add_div hp, Nat.mul_add_div hp, Nat.div_eq_of_lt l1, Nat.div_eq_of_lt l2] at a1
        omega
      have q2 : t.2 = s.2 := by
        rw [q1] at et
        omega
      exact nd.1 (by rw [show s = t from Prod.ext q1.symm q2.symm]; exact ht)
  · intro x hx
    obtain ⟨s, hs, rfl⟩ := List.mem_map.mp hx
    have h1 := hh s hs
    have h2 : s.2 % p < p := Nat.mod_lt _ hp
    calc s.1 * p + s.2 % p < s.1 * p + p := by omega
      _ = (s.1 + 1) * p := by rw [Nat.add_mul, Nat.one_mul]
      _ ≤ h * p := Nat.mul_le_mul_right _ h1
/-- how a way goes on behind its i-th stop -/
theorem way_next {p : Nat} {os : List Od} {n i : Nat} {st c : Nat × Nat} (hc : (way p os n st)[i]? = some c) (hi : i + 1 < n) : (way p os n st).drop (i + 1) = rest p os (n - (i + 1)) (hop p os c) := by
  have h := way_drop hc
  have e : n - i = (n - (i + 1)) + 1 := by omega
  rw [e, show way p os (n - (i + 1) + 1) c = rest p os (n - (i + 1) + 1) (some c) from rfl, rest_succ] at h
  have := congrArg (List.drop 1) h
  rw [List.drop_drop] at this
  exact this
/-- destination's answer -/
def destOf (res : List (Nat × Nat) × Option Nat) : Option (Nat × Nat) := match res.2 with
  | some _ => none
  | none => res.1.getLast?
def OptStop (H' : Hp) (v : V) : Option (Nat × Nat) → Prop
  | none => v = .non
  | some s => StopAt H' v s
/-! ### where a letter is: plain mathematics -/
/-- the i-th stop of a letter's way -/
def stp (p : Nat) (os : List Od) : Nat → Nat × Nat → Option (Nat × Nat)
  | 0, st => some st
  | n + 1, st => (stp p os n st).bind (hop p os)
theorem way_get {p : Nat} {os : List Od} {n : Nat} {st : Nat × Nat} : ∀ {i : Nat}, i < n → (way p os n st)[i]? = stp p os i st
  | 0, h => by
    obtain ⟨n, rfl⟩ : ∃ m, n = m + 1 := ⟨n - 1, by omega⟩
    rw [show way p os (n + 1) st = rest p os (n + 1) (some st) from rfl, rest_succ]
    rfl
  | i + 1, h => by
    have ih := way_get (p := p) (os := os) (n := n) (st := st) (i := i) (by omega)
    show _ = (stp p os i st).bind (hop p os)
    cases q : (way p os n st)[i]? with
    | none =>
      rw [← ih, q]
      rw [List.getElem?_eq_none_iff] at q
      exact List.getElem?_eq_none_iff.mpr (by omega)
    | some c =>
      rw [← ih, q]
      have e := way_next q h
      have e2 := congrArg (fun l => l[0]?) e
      simp only [List.getElem?_drop, Nat.add_zero] at e2
      rw [e2]
      obtain ⟨k, hk⟩ : ∃ k, n - (i + 1) = k + 1 := ⟨n - (i + 1) - 1, by omega⟩
      rw [hk]
      show (rest p os (k + 1) (hop p os c))[0]? = hop p os c
      cases hop p os c with
      | none => rfl
      | some s =>
        rw [rest_succ]
        rfl
theorem stp_add {p : Nat} {os : List Od} {i : Nat} {st : Nat × Nat} : ∀ {j : Nat}, stp p os (i + j) st = (stp p os i st).bind (stp p os j)
  | 0 => by
    show stp p os i st = _
    cases stp p os i st <;> rfl
  | j + 1 => by
    show (stp p os (i + j) st).bind (hop p os) = _
    rw [stp_add]
    cases stp p os i st <;> rfl
theorem hop_more {p h : Nat} {os : List Od} {c s : Nat × Nat} (k : NetOk p h os) (e : hop p os c = some s) : c.2 < s.2 := by
  unfold hop at e
  cases q : idx p os c.1 (c.2 : Int) with
  | none =>
    rw [q] at e
    cases e
  | some j =>
    simp only [q] at e
    have hj := idx_lt q
    rw [List.getElem?_eq_getElem hj] at e
    rw [← Option.some.inj e]
    have := (k.ok _ (List.getElem_mem hj)).e1
    show c.2 < c.2 + _
    omega
theorem stp_more {p h : Nat} {os : List Od} {i : Nat} {st a : Nat × Nat} (ok : NetOk p h os) (ha : stp p os i st = some a) : ∀ {k : Nat}, ∀ {b}, stp p os (i + (k + 1)) st = some b → a.2 < b.2
  | 0, b, hb => by
    have e : (stp p os i st).bind (hop p os) = some b := hb
    rw [ha] at e
    exact hop_more ok e
  | k + 1, b, hb => by
    have e : (stp p os (i + (k + 1)) st).bind (hop p os) = some b := hb
    cases q : stp p os (i + (k + 1)) st with
    | none =>
      rw [q] at e
      cases e
    | some c =>
      rw [q] at e
      have h1 := stp_more ok ha (k := k) q
      have h2 := hop_more ok e
      omega
/-- the letter's last stop up to the day x: it is c, the j-th -/
def LastAt (p : Nat) (os : List Od) (st : Nat × Nat) (x : Nat) (c : Nat × Nat) (j : Nat) : Prop :=
  stp p os j st = some c ∧ c.2 ≤ x ∧ ∀ s, hop p os c = some s → x < s.2
theorem LastAt.uniq {p h : Nat} {os : List Od} {st c c' : Nat × Nat} {x j j' : Nat} (ok : NetOk p h os) (a : LastAt p os st x c j) (b : LastAt p os st x c' j') : c = c' ∧ j = j' := by
  obtain ⟨a1, a2, a3⟩ := a
  obtain ⟨b1, b2, b3⟩ := b
  have key : ∀ {c c' : Nat × Nat} {j j' : Nat}, stp p os j st = some c → (∀ s, hop p os c = some s → x < s.2) → stp p os j' st = some c' → c'.2 ≤ x → j < j' → False := by
    intro c c' j j' h1 h2 h3 h4 lt
    obtain ⟨k, rfl⟩ : ∃ k, j' = (j + 1) + k := ⟨j' - (j + 1), by omega⟩
    have e0 : stp p os (j + 1) st = hop p os c := by
      show (stp p os j st).bind (hop p os) = _
      rw [h1]
      rfl
    cases q : hop p os c with
    | none =>
      rw [stp_add, e0, q] at h3
      cases h3
    | some s =>
      have h5 := h2 s q
      cases k with
      | zero =>
        rw [Nat.add_zero, e0, q] at h3
        rw [← Option.some.inj h3] at h4
        omega
      | succ k =>
        have h6 := stp_more ok (e0.trans q) h3
        omega
  by_cases e : j = j'
  · subst e
    exact ⟨Option.some.inj (a1.symm.trans b1), rfl⟩
  · rcases Nat.lt_or_gt_of_ne e with lt | lt
    · exact (key a1 a3 b1 b2 lt).elim
    · exact (key b1 b3 a1 a2 lt).elim
/-- later by D days, a multiple of the period -/
def shf (D : Nat) (s : Nat × Nat) : Nat × Nat := (s.1, s.2 + D)
theorem hop_shf {p : Nat} {os : List Od} {k : Nat} (s : Nat × Nat) : hop p os (shf (p * k) s) = (hop p os s).map (shf (p * k)) := by
  unfold hop shf
  show (match idx p os s.1 ((s.2 + p * k : Nat) : Int) with | none => none | some j => (os[j]?).map fun o : Od => (o.t, s.2 + p * k + o.e)) = _
  rw [idx_later]
  cases idx p os s.1 (s.2 : Int) with
  | none => rfl
  | some j =>
    show (os[j]?).map _ = ((os[j]?).map _).map _
    rw [Option.map_map]
    congr 1
    funext o
    show (o.t, s.2 + p * k + o.e) = (o.t, s.2 + o.e + p * k)
    rw [show s.2 + p * k + o.e = s.2 + o.e + p * k by omega]
theorem stp_shf {p : Nat} {os : List Od} {k : Nat} (s : Nat × Nat) : ∀ j, stp p os j (shf (p * k) s) = (stp p os j s).map (shf (p * k))
  | 0 => rfl
  | j + 1 => by
    show (stp p os j (shf (p * k) s)).bind (hop p os) = ((stp p os j s).bind (hop p os)).map _
    rw [stp_shf s j]
    cases stp p os j s with
    | none => rfl
    | some c => exact hop_shf c
/-- round after round -/
theorem stp_round {p : Nat} {os : List Od} {b N D k0 : Nat} {st t : Nat × Nat} (hD : D = p * k0) (h1 : stp p os b st = some t) (h2 : stp p os (b + N) st = some (shf D t)) : ∀ (r i : Nat), stp p os (b + i + N * r) st = (stp p os (b + i) st).map (shf (D * r))
  | 0, i => by
    rw [Nat.mul_zero, Nat.mul_zero, Nat.add_zero]
    cases stp p os (b + i) st <;> rfl
  | r + 1, i => by
    have one : ∀ j, stp p os (b + N + j) st = (stp p os (b + j) st).map (shf D) := by
      intro j
      rw [stp_add, h2]
      show stp p os j (shf D t) = _
      rw [stp_add (i := b), h1, hD, stp_shf]
      rfl
    have e : b + i + N * (r + 1) = b + N + (i + N * r) := by
      rw [Nat.mul_add, Nat.mul_one]
      omega
    rw [e, one, show b + (i + N * r) = b + i + N * r by omega, stp_round hD h1 h2 r i, Option.map_map]
    congr 1
    funext s
    show (s.1, s.2 + D * r + D) = (s.1, s.2 + D * (r + 1))
    rw [Nat.mul_add, Nat.mul_one, Nat.add_assoc]
/-- what fol says -/
theorem fol_spec {p : Nat} : ∀ (r d : List (Nat × Nat)), (d.map (plc p)).Nodup →
    (fol p d r = (d ++ r, none) ∧ ((d ++ r).map (plc p)).Nodup) ∨ ∃ m s b t r', d ++ r = m ++ s :: r' ∧ fol p d r = (m ++ [s], some b) ∧ m[b]? = some t ∧ plc p t = plc p s ∧ (m.map (plc p)).Nodup
  | [], d, nd => .inl ⟨by rw [List.append_nil]; rfl, by rw [List.append_nil]; exact nd⟩
  | s :: r, d, nd => by
    unfold fol
    cases q : d.findIdx? (fun t => decide (plc p t = plc p s)) with
    | some b =>
      obtain ⟨hb, hb2, _⟩ := List.findIdx?_eq_some_iff_getElem.mp q
      exact .inr ⟨d, s, b, d[b], r, rfl, rfl, List.getElem?_eq_getElem hb, of_decide_eq_true hb2, nd⟩
    | none =>
      have nd2 : ((d ++ [s]).map (plc p)).Nodup := by
        rw [List.map_append, List.nodup_append]
        refine ⟨nd, by simp, fun x hx y hy => ?_⟩
        rw [List.map_cons, List.map_nil, List.mem_singleton] at hy
        rw [hy]
        intro e
        obtain ⟨t, ht, et⟩ := List.mem_map.mp hx
        have := List.findIdx?_eq_none_iff.mp q t ht
        exact Bool.false_ne_true (this.symm.trans (decide_eq_true (et.trans e)))
      have ih := fol_spec r (d ++ [s]) nd2
      rw [List.append_assoc] at ih
      exact ih
/-- a letter that is delivered, or chases: by its stops -/
theorem folR_cases {p h : Nat} {os : List Od} {st : Nat × Nat} (ok : NetOk p h os) (hh : st.1 < h) :
    (∃ l, folR p h os st = (l, none) ∧ l ≠ [] ∧ (∀ i, l[i]? = stp p os i st) ∧ (l.map (plc p)).Nodup) ∨
    (∃ m s b t k, folR p h os st = (m ++ [s], some b) ∧ (∀ i, i ≤ m.length → (m ++ [s])[i]? = stp p os i st) ∧ m[b]? = some t ∧ s = shf (p * k) t ∧ 0 < p * k ∧ (m.map (plc p)).Nodup) := by
  have hp : 0 < p := ok.p1
  have hlen := way_len p os (h * p + 1) st
  have hget : ∀ {i}, i < h * p + 1 → (way p os (h * p + 1) st)[i]? = stp p os i st := fun hi => way_get hi
  have hho := way_house (n := h * p + 1) ok hh
  have hne : way p os (h * p + 1) st ≠ [] := by
    rw [show way p os (h * p + 1) st = rest p os (h * p + 1) (some st) from rfl, rest_succ]
    exact List.cons_ne_nil _ _
  unfold folR
  generalize way p os (h * p + 1) st = L at hlen hget hho hne
  rcases fol_spec (p := p) L [] List.nodup_nil with ⟨e, nd⟩ | ⟨m, s, b, t, r', e1, e2, e3, e4, nd⟩
  · rw [List.nil_append] at e nd
    refine .inl ⟨L, e, hne, fun i => ?_, nd⟩
    have hb := places_bound hp hho nd
    by_cases c : i < h * p + 1
    · exact hget c
    · have e1 : stp p os L.length st = none := by
        rw [← hget (by omega)]
        exact List.getElem?_eq_none_iff.mpr (Nat.le_refl _)
      have e2 : i = L.length + (i - L.length) := by omega
      rw [e2, stp_add, e1]
      exact List.getElem?_eq_none_iff.mpr (by omega)
  · rw [List.nil_append] at e1
    have hml : m.length < L.length := by
      rw [e1, List.length_append, List.length_cons]
      omega
    have hg : ∀ i, i ≤ m.length → (m ++ [s])[i]? = stp p os i st := fun i hi => by
      rw [← hget (by omega), e1]
      by_cases c : i < m.length
      · rw [List.getElem?_append_left c, List.getElem?_append_left c]
      · obtain rfl : i = m.length := by omega
        rw [List.getElem?_append_right (Nat.le_refl _), List.getElem?_append_right (Nat.le_refl _), Nat.sub_self]
        rfl
    have hbl : b < m.length := (List.getElem?_eq_some_iff.mp e3).1
    have g1 : stp p os b st = some t := by
      rw [← hg b (by omega), List.getElem?_append_left hbl]
      exact e3
    have g2 : stp p os (b + (m.length - b - 1 + 1)) st = some s := by
      rw [show b + (m.length - b - 1 + 1) = m.length by omega, ← hg _ (Nat.le_refl _), List.getElem?_append_right (Nat.le_refl _), Nat.sub_self]
      rfl
    have lt := stp_more (b := s) ok g1 g2
    have h1 : t.1 = s.1 := (Prod.mk.inj e4).1
    have h2 : t.2 % p = s.2 % p := (Prod.mk.inj e4).2
    have hk : s.2 = t.2 + p * (s.2 / p - t.2 / p) := by
      have a1 := Nat.div_add_mod s.2 p
      have a2 := Nat.div_add_mod t.2 p
      have a3 : t.2 / p ≤ s.2 / p := Nat.div_le_div_right (Nat.le_of_lt lt)
      rw [Nat.mul_sub]
      have a4 : p * (t.2 / p) ≤ p * (s.2 / p) := Nat.mul_le_mul_left _ a3
      omega
    refine .inr ⟨m, s, b, t, s.2 / p - t.2 / p, e2, hg, e3, ?_, by omega, nd⟩
    exact Prod.ext h1.symm hk
/-- of an increasing list, those up to a day are its beginning -/
theorem upto {sk x : Nat} : ∀ {l : List (Nat × Nat)}, l.Pairwise (fun a b => a.2 < b.2) → l.filter (fun s => decide (s.2 + sk ≤ x)) = l.take (l.filter fun s => decide (s.2 + sk ≤ x)).length ∧ ∀ s ∈ l.drop (l.filter fun s => decide (s.2 + sk ≤ x)).length, x < s.2 + sk
  | [], _ => ⟨rfl, fun s h => by cases h⟩
  | s :: r, hp => by
    rw [List.pairwise_cons] at hp
    obtain ⟨h1, h2⟩ := upto (sk := sk) (x := x) hp.2
    by_cases c : s.2 + sk ≤ x
    · have e : (s :: r).filter (fun s => decide (s.2 + sk ≤ x)) = s :: r.filter (fun s => decide (s.2 + sk ≤ x)) := List.filter_cons_of_pos (p := fun s : Nat × Nat => decide (s.2 + sk ≤ x)) (decide_eq_true c)
      rw [e, List.length_cons, List.take_succ_cons, List.drop_succ_cons]
      refine ⟨?_, h2⟩
      rw [← h1]
    · have hn : ∀ t ∈ s :: r, x < t.2 + sk := fun t ht => by
        rcases List.mem_cons.mp ht with e | e
        · rw [e]; omega
        · have := hp.1 t e
          omega
      have e0 : (s :: r).filter (fun s => decide (s.2 + sk ≤ x)) = [] := List.filter_eq_nil_iff.mpr fun t ht z => by
        have := hn t ht
        have := of_decide_eq_true z
        omega
      rw [e0]
      exact ⟨rfl, fun t ht => hn t ht⟩
theorem stp_pair {p h : Nat} {os : List Od} {st : Nat × Nat} {l : List (Nat × Nat)} (ok : NetOk p h os) (hl : ∀ i, i < l.length → l[i]? = stp p os i st) : l.Pairwise fun a b => a.2 < b.2 := by
  rw [List.pairwise_iff_getElem]
  intro i j hi hj lt
  have e1 := hl i hi
  have e2 := hl j hj
  rw [List.getElem?_eq_getElem hi] at e1
  rw [List.getElem?_eq_getElem hj] at e2
  obtain ⟨k, rfl⟩ : ∃ k, j = i + (k + 1) := ⟨j - i - 1, by omega⟩
  exact stp_more (b := l[i + (k + 1)]) ok e1.symm e2.symm
def cnt (l : List (Nat × Nat)) (x : Nat) : Nat := (l.filter fun s => decide (s.2 ≤ x)).length
/-- days and hops that a chasing letter has behind it in whole rounds, up to the day x -/
def skips (res : List (Nat × Nat) × Option Nat) (x : Nat) : Nat × Nat := match res.2 with
  | none => (0, 0)
  | some b => match res.1[b]?, res.1.getLast? with
    | some t, some s => if t.2 ≤ x then ((x - t.2) / (s.2 - t.2) * (s.2 - t.2), (x - t.2) / (s.2 - t.2) * (res.1.length - 1 - b)) else (0, 0)
    | _, _ => (0, 0)
def cntS (l : List (Nat × Nat)) (sk x : Nat) : Nat := (l.filter fun s => decide (s.2 + sk ≤ x)).length
theorem cntS_spec {p h : Nat} {os : List Od} {st : Nat × Nat} {l : List (Nat × Nat)} {sk x : Nat} (ok : NetOk p h os) (hl : ∀ i, i < l.length → l[i]? = stp p os i st) :
    cntS l sk x ≤ l.length ∧ (∀ i s, i < cntS l sk x → l[i]? = some s → s.2 + sk ≤ x) ∧ ∀ i s, cntS l sk x ≤ i → l[i]? = some s → x < s.2 + sk := by
  obtain ⟨h1, h2⟩ := upto (sk := sk) (x := x) (stp_pair ok hl)
  have hc : cntS l sk x ≤ l.length := List.length_filter_le _ _
  refine ⟨hc, fun i s hi e => ?_, fun i s hi e => ?_⟩
  · have m : s ∈ l.filter fun s => decide (s.2 + sk ≤ x) := by
      rw [h1]
      refine List.mem_of_getElem? (i := i) ?_
      show (l.take (cntS l sk x))[i]? = some s
      rw [List.getElem?_take_of_lt hi]
      exact e
    exact of_decide_eq_true (List.mem_filter.mp m).2
  · refine h2 s (List.mem_of_getElem? (i := i - cntS l sk x) ?_)
    show (l.drop (cntS l sk x))[i - cntS l sk x]? = some s
    rw [List.getElem?_drop, show cntS l sk x + (i - cntS l sk x) = i by omega]
    exact e
/-- the last stop, as it is computed from what follow says -/
theorem last_of {p h : Nat} {os : List Od} {st : Nat × Nat} {x : Nat} (ok : NetOk p h os) (hh : st.1 < h) (hx : st.2 ≤ x) :
    ∃ c s, cntS (folR p h os st).1 (skips (folR p h os st) x).1 x = c + 1 ∧ (folR p h os st).1[c]? = some s ∧ LastAt p os st x (shf (skips (folR p h os st) x).1 s) (c + (skips (folR p h os st) x).2) ∧
      ((folR p h os st).2.isSome = true → c + 1 < (folR p h os st).1.length) := by
  rcases folR_cases ok hh with ⟨l, e, hne, hl, _⟩ | ⟨m, s, b, t, k, e, hl, hb, hs, hk, _⟩
  · rw [e]
    show ∃ c s, cntS l 0 x = c + 1 ∧ l[c]? = some s ∧ LastAt p os st x (shf 0 s) (c + 0) ∧ (Option.isSome (none : Option Nat) = true → c + 1 < l.length)
    obtain ⟨c1, c2, c3⟩ := cntS_spec (sk := 0) (x := x) ok fun i _ => hl i
    have h0 : l[0]? = some st := hl 0
    have pos : 0 < cntS l 0 x := by
      refine Nat.pos_of_ne_zero fun z => ?_
      have := c3 0 st (by omega) h0
      omega
    obtain ⟨c, hc⟩ : ∃ c, cntS l 0 x = c + 1 := ⟨cntS l 0 x - 1, by omega⟩
    have hcl : c < l.length := by omega
    have hc' := List.getElem?_eq_getElem hcl
    refine ⟨c, l[c], hc, hc', ⟨?_, c2 c _ (by omega) hc', fun s hs => ?_⟩, fun z => by cases z⟩
    · rw [Nat.add_zero, ← hl c]
      exact hc'
    · have e1 : l[c + 1]? = some s := by
        rw [hl (c + 1)]
        show (stp p os c st).bind (hop p os) = _
        rw [← hl c, hc']
        exact hs
      have := c3 (c + 1) s (by omega) e1
      omega
  · rw [e]
    have hbl : b < m.length := (List.getElem?_eq_some_iff.mp hb).1
    have hl' : ∀ i, i < (m ++ [s]).length → (m ++ [s])[i]? = stp p os i st := fun i hi => hl i (by rw [List.length_append, List.length_singleton] at hi; omega)
    have g1 : (m ++ [s])[b]? = some t := by rw [List.getElem?_append_left hbl]; exact hb
    have g2 : (m ++ [s])[m.length]? = some s := by
      rw [List.getElem?_append_right (Nat.le_refl _), Nat.sub_self]
      rfl
    have w1 : stp p os b st = some t := by rw [← hl b (by omega)]; exact g1
    have w2 : stp p os (b + (m.length - b)) st = some (shf (p * k) t) := by
      rw [show b + (m.length - b) = m.length by omega, ← hl _ (Nat.le_refl _), ← hs]
      exact g2
    have hD : s.2 - t.2 = p * k := by
      rw [hs]
      show t.2 + p * k - t.2 = _
      omega
    have esk : skips (m ++ [s], some b) x = if t.2 ≤ x then ((x - t.2) / (p * k) * (p * k), (x - t.2) / (p * k) * (m.length - b)) else (0, 0) := by
      unfold skips
      simp only [g1, List.getLast?_concat, hD]
      rw [List.length_append, List.length_singleton, Nat.add_sub_cancel]
    rw [esk]
    by_cases c : t.2 ≤ x
    · rw [if_pos c]
      generalize hr : (x - t.2) / (p * k) = r
      have q1 := Nat.div_add_mod (x - t.2) (p * k)
      have q2 := Nat.mod_lt (x - t.2) hk
      rw [hr] at q1
      have q3 : p * k * r = r * (p * k) := Nat.mul_comm _ _
      show ∃ c z, cntS (m ++ [s]) (r * (p * k)) x = c + 1 ∧ (m ++ [s])[c]? = some z ∧ LastAt p os st x (shf (r * (p * k)) z) (c + r * (m.length - b)) ∧ (Option.isSome (some b) = true → c + 1 < (m ++ [s]).length)
      obtain ⟨c1, c2, c3⟩ := cntS_spec (sk := r * (p * k)) (x := x) ok hl'
      have lo : b < cntS (m ++ [s]) (r * (p * k)) x := by
        refine Nat.lt_of_not_le fun z => ?_
        have := c3 b t z g1
        omega
      have hi : cntS (m ++ [s]) (r * (p * k)) x ≤ m.length := by
        refine Nat.le_of_not_lt fun z => ?_
        have := c2 m.length s z g2
        have e0 : s.2 = t.2 + p * k := by rw [hs]; rfl
        omega
      obtain ⟨c, hc⟩ : ∃ c, cntS (m ++ [s]) (r * (p * k)) x = c + 1 := ⟨cntS (m ++ [s]) (r * (p * k)) x - 1, by omega⟩
      have hcl : c < (m ++ [s]).length := by rw [List.length_append, List.length_singleton]; omega
      have hc' := List.getElem?_eq_getElem hcl
      have round := stp_round (D := p * k) (k0 := k) rfl w1 w2 r
      have sc : stp p os (c + r * (m.length - b)) st = some (shf (r * (p * k)) ((m ++ [s])[c])) := by
        have e1 := round (c - b)
        rw [show b + (c - b) = c by omega, Nat.mul_comm (m.length - b) r, ← hl c (by omega), hc', Nat.mul_comm (p * k) r] at e1
        exact e1
      refine ⟨c, (m ++ [s])[c], hc, hc', ⟨sc, c2 c _ (by omega) hc', fun z hz => ?_⟩, fun _ => by rw [List.length_append, List.length_singleton]; omega⟩
      have hcl2 : c + 1 < (m ++ [s]).length := by rw [List.length_append, List.length_singleton]; omega
      have hc2' := List.getElem?_eq_getElem hcl2
      have e2 := round (c + 1 - b)
      rw [show b + (c + 1 - b) = c + 1 by omega, Nat.mul_comm (m.length - b) r, ← hl (c + 1) (by omega), hc2', Nat.mul_comm (p * k) r] at e2
      have e3 : stp p os (c + 1 + r * (m.length - b)) st = some z := by
        rw [show c + 1 + r * (m.length - b) = (c + r * (m.length - b)) + 1 by omega]
        show (stp p os (c + r * (m.length - b)) st).bind (hop p os) = _
        rw [sc]
        exact hz
      rw [e3] at e2
      rw [Option.some.inj e2]
      exact c3 (c + 1) _ (by omega) hc2'
    · rw [if_neg c]
      show ∃ c z, cntS (m ++ [s]) 0 x = c + 1 ∧ (m ++ [s])[c]? = some z ∧ LastAt p os st x (shf 0 z) (c + 0) ∧ (Option.isSome (some b) = true → c + 1 < (m ++ [s]).length)
      obtain ⟨c1, c2, c3⟩ := cntS_spec (sk := 0) (x := x) ok hl'
      have h0 : (m ++ [s])[0]? = some st := hl 0 (Nat.zero_le _)
      have pos : 0 < cntS (m ++ [s]) 0 x := by
        refine Nat.pos_of_ne_zero fun z => ?_
        have := c3 0 st (by omega) h0
        omega
      have hi : cntS (m ++ [s]) 0 x ≤ b := by
        refine Nat.le_of_not_lt fun z => ?_
        have := c2 b t z g1
        omega
      obtain ⟨c, hc⟩ : ∃ c, cntS (m ++ [s]) 0 x = c + 1 := ⟨cntS (m ++ [s]) 0 x - 1, by omega⟩
      have hcl : c < (m ++ [s]).length := by rw [List.length_append, List.length_singleton]; omega
      have hc' := List.getElem?_eq_getElem hcl
      have sc : stp p os c st = some ((m ++ [s])[c]) := by
        rw [← hl c (by omega)]
        exact hc'
      refine ⟨c, (m ++ [s])[c], hc, hc', ⟨sc, c2 c _ (by omega) hc', fun z hz => ?_⟩, fun _ => by rw [List.length_append, List.length_singleton]; omega⟩
      have e3 : (m ++ [s])[c + 1]? = some z := by
        rw [hl (c + 1) (by omega)]
        show (stp p os c st).bind (hop p os) = _
        rw [sc]
        exact hz
      have := c3 (c + 1) z (by omega) e3
      omega
/-! ### stops as data -/
theorem fol_first {p : Nat} {s : Nat × Nat} {r : List (Nat × Nat)} : fol p [] (s :: r) = fol p [s] r := by simp [fol]
def plD (s : Nat × Nat) : PyData := .tuple [.int s.1, .int s.2]
theorem plD_shaped (s : Nat × Nat) : PySem.SeqAt.shaped (plD s) = true := by
  show ((plD s).canLay0 && decide ((plD s).depth ≤ 64)) = true
  rw [Bool.and_eq_true]
  refine ⟨by simp [plD, PyData.canLay0, PyData.canLayAll0], decide_eq_true ?_⟩
  have e : (plD s).depth = 1 := by simp [plD, PyData.depth, PyData.depthAll]
  omega
theorem plDs_lay : ∀ l : List (Nat × Nat), PyData.canLayAll0 (l.map plD) = true
  | [] => by simp [PyData.canLayAll0]
  | s :: l => by
    have h : (plD s).canLay0 = true := by simp [plD, PyData.canLay0, PyData.canLayAll0]
    simp [PyData.canLayAll0, h, plDs_lay l]
theorem plDs_depth : ∀ l : List (Nat × Nat), PyData.depthAll (l.map plD) ≤ 1
  | [] => by simp [PyData.depthAll]
  | s :: l => by
    have h1 := plDs_depth l
    have h2 : (plD s).depth = 1 := by simp [plD, PyData.depth, PyData.depthAll]
    simp only [List.map_cons, PyData.depthAll]
    omega
theorem plDs_shaped (l : List (Nat × Nat)) : PySem.SeqAt.shaped (.list (l.map plD)) = true := by
  have h1 := plDs_depth l
  show (PyData.canLay0 (.list (l.map plD)) && decide (PyData.depth (.list (l.map plD)) ≤ 64)) = true
  rw [Bool.and_eq_true]
  refine ⟨by simp only [PyData.canLay0]; exact plDs_lay l, decide_eq_true ?_⟩
  simp only [PyData.depth]
  omega
theorem plD_eqv (s t : Nat × Nat) : PyData.eqv (plD s) (plD t) = decide (s = t) := by
  obtain ⟨a, b⟩ := s
  obtain ⟨c, d⟩ := t
  have e : PyData.eqv (plD (a, b)) (plD (c, d)) = (((a : Int) == (c : Int)) && (((b : Int) == (d : Int)) && true)) := by simp only [plD, PyData.eqv, PyData.eqvAll]
  rw [e]
  by_cases h : ((a, b) : Nat × Nat) = (c, d)
  · cases h
    simp
  · rw [decide_eq_false h]
    by_cases h1 : a = c
    · have h2 : ¬ (b : Int) = (d : Int) := fun z => h (by rw [h1, show b = d by omega])
      have e2 : ((b : Int) == (d : Int)) = false := beq_eq_false_iff_ne.mpr h2
      rw [e2, Bool.false_and, Bool.and_false]
    · have e2 : ((a : Int) == (c : Int)) = false := beq_eq_false_iff_ne.mpr (by omega)
      rw [e2, Bool.false_and]
theorem stop_dp {K : PySem.W.Frag} {H : Hp} {v : V} {s : Nat × Nat} (h : StopAt H v s) : Dp K H v (plD s) := by
  obtain ⟨u, rfl, hu⟩ := h
  exact .tup (SqT.of hu) (.cons (.int _) (.cons (.int _) .nil))
theorem stops_dp {K : PySem.W.Frag} {H : Hp} {vs : List V} {l : List (Nat × Nat)} (h : Paired (StopAt H) vs l) : DpAll K H vs (l.map plD) := by
  induction h with
  | nil => exact .nil
  | cons r _ ih => exact .cons (stop_dp r) ih
/-! ### days of a house: plain -/
/-- the three lists of day_sets: by the days below n -/
def arr (p h : Nat) (os : List Od) (hs n : Nat) : List Nat := (List.range n).filter fun d => (folR p h os (hs, d)).2.isNone
def chs (p h : Nat) (os : List Od) (hs n : Nat) : List Nat := (List.range n).filter fun d => (folR p h os (hs, d)).2.isSome
def ret (p h : Nat) (os : List Od) (hs n : Nat) : List Nat := (List.range n).filter fun d => ((folR p h os (hs, d)).1.drop 1).any fun s => decide (s.1 = hs)
theorem filter_nints {n : Nat} {f : Nat → Bool} (h : f n = true) : nints ((List.range (n + 1)).filter f) = nints ((List.range n).filter f) ++ [.int (n : Nat)] := by
  rw [filter_range_succ', if_pos h]
  unfold nints
  rw [List.map_append]
  rfl
theorem filter_nints' {n : Nat} {f : Nat → Bool} (h : f n = false) : nints ((List.range (n + 1)).filter f) = nints ((List.range n).filter f) := by
  rw [filter_range_succ', if_neg (by rw [h]; exact Bool.false_ne_true), List.append_nil]
theorem nints_small {n : Nat} {f : Nat → Bool} (h : n ≤ 30) : (nints ((List.range n).filter f)).length < sizeLine := by
  unfold nints
  rw [List.length_map]
  exact small1000 (Nat.le_trans (List.length_filter_le _ _) (by rw [List.length_range]; omega))
/-! ### equal data (nested lists and tuples of None, bools, ints, texts) -/
def Flat1 (v : V) : Prop := v = .non ∨ (∃ b, v = .bl b) ∨ (∃ i, v = .int i) ∨ ∃ s, v = .str s
def Eqv : Nat → Hp → V → V → Prop
  | 0, _, a, b => a = b ∧ Flat1 a
  | n + 1, H, a, b => (a = b ∧ Flat1 a) ∨ (∃ p q xs ys, a = .ref p ∧ b = .ref q ∧ H p = some (.tup xs) ∧ H q = some (.tup ys) ∧ xs.length ≤ 1000 ∧ Paired (Eqv n H) xs ys) ∨
      ∃ p q xs ys, a = .ref p ∧ b = .ref q ∧ H p = some (.lst xs) ∧ H q = some (.lst ys) ∧ xs.length ≤ 1000 ∧ Paired (Eqv n H) xs ys
theorem Eqv.flat {n : Nat} {H : Hp} {a b : V} (e : a = b) (f : Flat1 a) : Eqv n H a b := by
  cases n with
  | zero => exact ⟨e, f⟩
  | succ n => exact .inl ⟨e, f⟩
theorem Eqv.int {n : Nat} {H : Hp} {i : Int} : Eqv n H (.int i) (.int i) := Eqv.flat rfl (.inr (.inr (.inl ⟨i, rfl⟩)))
theorem Eqv.non {n : Nat} {H : Hp} : Eqv n H .non .non := Eqv.flat rfl (.inl rfl)
theorem Eqv.same : ∀ {n : Nat} {H H' : Hp} {a b : V}, Same H H' → Eqv n H a b → Eqv n H' a b
  | 0, _, _, _, _, _, h => h
  | n + 1, H, H', a, b, s, h => by
    rcases h with h | ⟨p, q, xs, ys, e1, e2, h1, h2, h3, h4⟩ | ⟨p, q, xs, ys, e1, e2, h1, h2, h3, h4⟩
    · exact .inl h
    · exact .inr (.inl ⟨p, q, xs, ys, e1, e2, s _ _ h1, s _ _ h2, h3, Paired.mapP h4 fun _ _ z => Eqv.same s z⟩)
    · exact .inr (.inr ⟨p, q, xs, ys, e1, e2, s _ _ h1, s _ _ h2, h3, Paired.mapP h4 fun _ _ z => Eqv.same s z⟩)
theorem optEqv {H : Hp} {v v' : V} {o : Option (Nat × Nat)} (h : OptStop H v o) (h' : OptStop H v' o) : Eqv 1 H v v' := by
  cases o with
  | none =>
    obtain rfl : v = .non := h
    obtain rfl : v' = .non := h'
    exact Eqv.non
  | some s =>
    obtain ⟨u, rfl, hu⟩ := h
    obtain ⟨u2, rfl, hu2⟩ := h'
    exact .inr (.inl ⟨u, u2, _, _, rfl, rfl, hu, hu2, by show 2 ≤ 1000; decide, .cons Eqv.int (.cons Eqv.int .nil)⟩)
theorem OptStop.keep {H H' : Hp} {v : V} {o : Option (Nat × Nat)} (k : TupKeep H H') (h : OptStop H v o) : OptStop H' v o := by
  cases o with
  | none => exact h
  | some s => exact StopAt.keep k h
abbrev s_l_net : Stmt := top 40
abbrev N_l_net : List Str := ["_law_parts"]
abbrev P_l_net : List Str := ["_law_parts"]
theorem sc_l_net : FnScope N_l_net P_l_net (defScope s_l_net) := ⟨rfl, rfl, rfl, by decide +kernel, rfl, by decide +kernel, by decide +kernel⟩
/-! ### the law's helper: a net of parts -/
def spNet (C : Addr) : Sp := fun vs H Q _ => ∃ (a t : Addr) (p h : Nat) (os : List Od), vs = [.ref a] ∧ H a = some (.tup [.int p, .int h, .ref t]) ∧ OrdsTup H t os ∧ NetOk p h os ∧
  ∀ H' x F, Same H H' → (∀ b ∈ F, H b = none) → NetAt C H' x p h os t F → Q (.ref x) H'
section
variable {P : Program} {w : World} {K : PySem.W.Frag} {mg : Str → Option Value} {base : Heap}
theorem ok_net {f C fI : Addr} {fd fdI : FuncData} (F : Fun K "_law_net" "_law_net" s_l_net f fd) (M : Mk K C fI) (gC : mg "Net" = some (.ref C)) (GI : FnOk P w K mg base CX0 5 fI fdI P_Net_init (spInit C)) (bI : Binds K fdI P_Net_init []) : FnOk P w K mg base CX0 7 f fd P_l_net (spNet C) := by
  refine F.ok sc_l_net (fun vs H Q E h => ?_) (fun cdv A outer s H vs Q E hr h => ?_)
  · obtain ⟨a, t, p, h, os, rfl, _⟩ := h
    rfl
  · obtain ⟨a, t, p, h, os, rfl, ha, hO, ok, q⟩ := h
    refine ⟨_, pss_one (ps_ret (pe_make M GI hr (by rfl) gC bI .nil pass0 (pa_cons (pe_ix ix_tup (pv 0) pe_int (fun _ _ => rfl)) (pa_cons (pe_ix ix_tup (pv 0) pe_int (fun _ _ => rfl)) (pa_cons (pe_ix ix_tup (pv 0) pe_int (fun _ _ => rfl)) pa_nil))))), ?_⟩
    refine ⟨_, rfl, a, _, 0, _, rfl, rfl, SqT.of ha, atI_nat (j := 0) rfl, _, rfl, a, _, 1, _, rfl, rfl, SqT.of ha, atI_nat (j := 1) rfl, _, rfl, a, _, 2, _, rfl, rfl, SqT.of ha, atI_nat (j := 2) rfl, ?_⟩
    intro x dx nx ndx nex
    have s0 : Same H (upd (upd H dx (.own x)) x (.ins C dx [])) := same_updN (same_upd ndx) nx
    exact ⟨x, dx, t, p, h, os, H, rfl, ok, hO.keep (tk_of s0), s0, nx, upd_same, fun H' F s1 nF N => ⟨rfl, q H' x F s1 nF N⟩⟩
end
/-! ### the law -/
def spLaw (K : PySem.W.Frag) : Sp := fun vs H Q _ => ∃ (a : Addr) (ns : List Int), vs = [.ref a] ∧ SqL K H a (ns.map V.int) ∧ ns.length ≤ 63 ∧ ∀ H', Q (.bl true) H'
/-- all that the law's step leans on, at the heap H -/
structure StepAt (C : Addr) (H : Hp) (d ap x t : Addr) (p h : Nat) (os : List Od) (F : List Addr) : Prop where
  D : DAt H d
  pa : H ap = some (.tup [.int p, .int h, .ref t])
  po : OrdsTup H t os
  N : NetAt C H x p h os t F
theorem StepAt.keep {C : Addr} {H H' : Hp} {d ap x t : Addr} {p h : Nat} {os : List Od} {F : List Addr} (S : StepAt C H d ap x t p h os F) (s : Same H H') : StepAt C H' d ap x t p h os F :=
  ⟨S.D.but s, s _ _ S.pa, S.po.keep (tk_of s), S.N.same s⟩
theorem StepAt.but {C : Addr} {H H' : Hp} {d ap x t : Addr} {p h : Nat} {os : List Od} {F : List Addr} (S : StepAt C H d ap x t p h os F) (s : But d H H') (D' : DAt H' d) (nF : d ∉ F) : StepAt C H' d ap x t p h os F :=
  ⟨D', s.tk S.D _ _ S.pa, S.po.keep (s.tk S.D), S.N.but s (s.tk S.D) nF⟩
theorem StepAt.lst {C : Addr} {H : Hp} {d ap x t u : Addr} {p h : Nat} {os : List Od} {F : List Addr} {xs : List V} {o : HO} (S : StepAt C H d ap x t p h os F) (hu : H u = some (.lst xs)) (nd : d ≠ u) (nF : u ∉ F) : StepAt C (upd H u o) d ap x t p h os F := by
  have tk : TupKeep H (upd H u o) := TupKeep.lst hu
  exact ⟨S.D.updN nd, tk _ _ S.pa, S.po.keep tk, S.N.but .upd tk nF⟩
theorem StepAt.parts {C : Addr} {H : Hp} {d ap x t : Addr} {p h : Nat} {os : List Od} {F : List Addr} (S : StepAt C H d ap x t p h os F) : PartsAt H ap p h os := ⟨t, S.pa, S.po⟩
theorem ordsEqv {H : Hp} {t : Addr} {os : List Od} (h : OrdsTup H t os) (l : os.length ≤ 20) : Eqv 2 H (.ref t) (.ref t) := by
  obtain ⟨ts, ht, hP⟩ := h
  refine .inr (.inl ⟨t, t, ts, ts, rfl, rfl, ht, ht, by rw [hP.length]; omega, ?_⟩)
  clear l ht
  induction hP with
  | nil => exact .nil
  | cons r _ ih =>
    refine .cons ?_ ih
    obtain ⟨u, rfl, hu⟩ := r
    exact .inr (.inl ⟨u, u, _, _, rfl, rfl, hu, hu, by show 5 ≤ 1000; decide, .cons Eqv.int (.cons Eqv.int (.cons Eqv.int (.cons Eqv.int (.cons Eqv.int .nil))))⟩)
theorem nintsEqv {H : Hp} {a b : Addr} {l : List Nat} (ha : H a = some (.lst (nints l))) (hb : H b = some (.lst (nints l))) (hl : l.length ≤ 1000) : Eqv 1 H (.ref a) (.ref b) := by
  refine .inr (.inr ⟨a, b, _, _, rfl, rfl, ha, hb, by unfold nints; rw [List.length_map]; exact hl, ?_⟩)
  unfold nints
  clear ha hb hl
  induction l with
  | nil => exact .nil
  | cons n l ih => exact .cons ⟨rfl, .inr (.inr (.inl ⟨_, rfl⟩))⟩ ih
theorem stopsEqv {H : Hp} {a b : Addr} {xs ys : List V} {l : List (Nat × Nat)} (ha : H a = some (.lst xs)) (hb : H b = some (.lst ys)) (hx : Paired (StopAt H) xs l) (hy : Paired (StopAt H) ys l) (hl : l.length ≤ 1000) : Eqv 2 H (.ref a) (.ref b) := by
  refine .inr (.inr ⟨a, b, _, _, rfl, rfl, ha, hb, by rw [hx.length]; exact hl, ?_⟩)
  clear ha hb hl
  induction hx generalizing ys with
  | nil => cases hy; exact .nil
  | cons r _ ih =>
    cases hy with
    | cons r2 t2 =>
      refine .cons ?_ (ih t2)
      obtain ⟨u, rfl, hu⟩ := r
      obtain ⟨u2, rfl, hu2⟩ := r2
      exact .inr (.inl ⟨u, u2, _, _, rfl, rfl, hu, hu2, by show 2 ≤ 1000; decide, .cons (Eqv.int) (.cons Eqv.int .nil)⟩)
theorem optV_flat1 (o : Option Nat) : Flat1 (optV o) := by
  cases o with
  | none => exact .inl rfl
  | some k => exact .inr (.inr (.inl ⟨_, rfl⟩))
theorem Paired.last {α β : Type} {F : α → β → Prop} {xs : List α} {l : List β} {s : β} (h : Paired F xs (l ++ [s])) : ∃ ys v, xs = ys ++ [v] ∧ Paired F ys l ∧ F v s := by
  induction l generalizing xs with
  | nil =>
    cases h with
    | cons r t =>
      cases t
      exact ⟨[], _, rfl, .nil, r⟩
  | cons b l ih =>
    cases h with
    | cons r t =>
      obtain ⟨ys, v, rfl, h1, h2⟩ := ih t
      exact ⟨_ :: ys, v, rfl, .cons r h1, h2⟩
theorem Paired.take {α β : Type} {F : α → β → Prop} {xs : List α} {l : List β} (h : Paired F xs l) : ∀ n, Paired F (xs.take n) (l.take n) := by
  induction h with
  | nil =>
    intro n
    rw [List.take_nil, List.take_nil]
    exact .nil
  | cons r _ ih =>
    intro n
    cases n with
    | zero => exact .nil
    | succ n => exact .cons r (ih n)
theorem nints_dp {K : PySem.W.Frag} {H : Hp} {a : Addr} {l : List Nat} (h : H a = some (.lst (nints l))) : Dp K H (.ref a) (.list ((l.map fun (n : Nat) => (n : Int)).map PyData.int)) := by
  refine .lst (SqL.of h) ?_
  clear h
  unfold nints
  induction l with
  | nil => exact .nil
  | cons n l ih => exact .cons (.int _) ih
theorem nints_eqv (l : List Int) : PyData.eqv (.list (l.map PyData.int)) (.list (l.map PyData.int)) = true :=
  PySem.SeqAt.eqv_refl _ (PySem.SeqAt.canLay_of_shaped (PySem.W.ke_shaped_ints l))
/-! ### loops: plain mathematics -/
theorem plc_shf {p k : Nat} (s : Nat × Nat) : plc p (shf (p * k) s) = plc p s := by
  unfold plc shf
  rw [Nat.add_mul_mod_self_left]
theorem plc_plc {p : Nat} (s : Nat × Nat) : plc p (plc p s) = plc p s := by
  unfold plc
  rw [Nat.mod_mod]
theorem shf_plc {p : Nat} (s : Nat × Nat) : s = shf (p * (s.2 / p)) (plc p s) := by
  obtain ⟨a, d⟩ := s
  show (a, d) = (a, d % p + p * (d / p))
  rw [Nat.add_comm, Nat.div_add_mod]
/-- a letter's place behind i hops -/
def pst (p : Nat) (os : List Od) (i : Nat) (q : Nat × Nat) : Option (Nat × Nat) := (stp p os i q).map (plc p)
theorem pst_shf {p i k : Nat} {os : List Od} (s : Nat × Nat) : pst p os i (shf (p * k) s) = pst p os i s := by
  unfold pst
  rw [stp_shf, Option.map_map]
  congr 1
  funext t
  exact plc_shf t
theorem pst_plc {p i : Nat} {os : List Od} (s : Nat × Nat) : pst p os i (plc p s) = pst p os i s := by
  conv => rhs; rw [shf_plc (p := p) s]
  rw [pst_shf]
theorem pst_add {p i j : Nat} {os : List Od} (s : Nat × Nat) : pst p os (i + j) s = (pst p os i s).bind (pst p os j) := by
  unfold pst
  rw [stp_add]
  cases stp p os i s with
  | none => rfl
  | some c => exact (pst_plc c).symm
theorem pst_zero {p : Nat} {os : List Od} (s : Nat × Nat) : pst p os 0 s = some (plc p s) := rfl
/-- l is a loop: the places that f goes through, again and again -/
structure CycF (p : Nat) (os : List Od) (l : List (Nat × Nat)) (f : Nat → Nat × Nat) (n : Nat) : Prop where
  n0 : 0 < n
  eq : l = (List.range n).map f
  nd : l.Nodup
  nx : ∀ i, pst p os 1 (f i) = some (f (i + 1))
  per : ∀ i, f (i + n) = f i
def Cyc (p : Nat) (os : List Od) (l : List (Nat × Nat)) : Prop := ∃ f n, CycF p os l f n
section
variable {p : Nat} {os : List Od} {l l' : List (Nat × Nat)} {f g : Nat → Nat × Nat} {n m : Nat}
theorem CycF.len (c : CycF p os l f n) : l.length = n := by rw [c.eq, List.length_map, List.length_range]
theorem CycF.get (c : CycF p os l f n) {i : Nat} (h : i < n) : l[i]? = some (f i) := by rw [c.eq, List.getElem?_map, List.getElem?_range h]; rfl
theorem CycF.perk (c : CycF p os l f n) (i : Nat) : ∀ k, f (i + n * k) = f i
  | 0 => rfl
  | k + 1 => by
    rw [Nat.mul_succ, ← Nat.add_assoc, c.per]
    exact c.perk i k
theorem CycF.mod (c : CycF p os l f n) (i : Nat) : f (i % n) = f i := by
  have h := c.perk (i % n) (i / n)
  rw [Nat.mod_add_div] at h
  exact h.symm
theorem CycF.mem (c : CycF p os l f n) {x : Nat × Nat} : x ∈ l ↔ ∃ i, x = f i := by
  rw [c.eq, List.mem_map]
  constructor
  · rintro ⟨i, _, rfl⟩
    exact ⟨i, rfl⟩
  · rintro ⟨i, rfl⟩
    exact ⟨i % n, List.mem_range.mpr (Nat.mod_lt _ c.n0), c.mod i⟩
theorem CycF.inj (c : CycF p os l f n) {i j : Nat} (hi : i < n) (hj : j < n) (e : f i = f j) : i = j := by
  have a := c.get hi
  have b := c.get hj
  rw [← e] at b
  exact (List.getElem?_inj (by rw [c.len]; exact hi) c.nd).mp (a.trans b.symm)
theorem CycF.place (c : CycF p os l f n) (i : Nat) : plc p (f i) = f i := by
  have h := c.nx (i + (n - 1))
  have n0 := c.n0
  rw [show i + (n - 1) + 1 = i + n by omega, c.per] at h
  unfold pst at h
  obtain ⟨t, _, e⟩ := Option.map_eq_some_iff.mp h
  rw [← e]
  exact plc_plc t
theorem CycF.steps (c : CycF p os l f n) (i : Nat) : ∀ k, pst p os k (f i) = some (f (i + k))
  | 0 => by rw [pst_zero, c.place]; rfl
  | k + 1 => by
    rw [pst_add, c.steps i k]
    exact c.nx (i + k)
/-- the rest of both, from a shared place -/
theorem CycF.along (c : CycF p os l f n) (d : CycF p os l' g m) {i j : Nat} (e : f i = g j) (k : Nat) : f (i + k) = g (j + k) := by
  have a := c.steps i k
  rw [e, d.steps j k] at a
  exact (Option.some.inj a).symm
theorem CycF.le_of (c : CycF p os l f n) (d : CycF p os l' g m) {i j : Nat} (e : f i = g j) : n ≤ m := by
  refine Nat.le_of_not_lt fun lt => ?_
  have h := c.along d e m
  rw [d.per, ← e, ← c.mod (i + m), ← c.mod i] at h
  have n0 := c.n0
  have m0 := d.n0
  have := c.inj (Nat.mod_lt _ n0) (Nat.mod_lt _ n0) h
  have e2 : (i + m) % n = (i % n + m) % n := by rw [Nat.mod_add_mod]
  rw [e2] at this
  have hi := Nat.mod_lt i n0
  by_cases z : i % n + m < n
  · rw [Nat.mod_eq_of_lt z] at this
    omega
  · rw [Nat.mod_eq_sub_mod (by omega), Nat.mod_eq_of_lt (by omega)] at this
    omega
theorem CycF.same_len (c : CycF p os l f n) (d : CycF p os l' g m) {i j : Nat} (e : f i = g j) : n = m := Nat.le_antisymm (c.le_of d e) (d.le_of c e.symm)
theorem CycF.sub (c : CycF p os l f n) (d : CycF p os l' g m) {i j : Nat} (e : f i = g j) {x : Nat × Nat} (hx : x ∈ l) : x ∈ l' := by
  obtain ⟨k, rfl⟩ := c.mem.mp hx
  have h := c.along d e (k + (n * (i + 1) - i))
  have n0 := c.n0
  have hge : i ≤ n * (i + 1) := Nat.le_trans (Nat.le_succ i) (Nat.le_mul_of_pos_left _ n0)
  rw [show i + (k + (n * (i + 1) - i)) = k + n * (i + 1) by omega, c.perk] at h
  rw [h]
  exact d.mem.mpr ⟨_, rfl⟩
theorem CycF.eq_of_head (c : CycF p os l f n) (d : CycF p os l' g m) (e : f 0 = g 0) : l = l' := by
  obtain rfl := c.same_len d e
  rw [c.eq, d.eq]
  refine List.map_congr_left fun i _ => ?_
  have := c.along d e i
  rw [Nat.zero_add] at this
  exact this
theorem CycF.turn (c : CycF p os l f n) : CycF p os (l.drop 1 ++ l.take 1) (fun i => f (i + 1)) n := by
  have n0 := c.n0
  have hl : l.drop 1 ++ l.take 1 = (List.range n).map fun i => f (i + 1) := by
    obtain ⟨k, rfl⟩ : ∃ k, n = k + 1 := ⟨n - 1, by omega⟩
    have e1 : l = f 0 :: (List.range k).map fun i => f (i + 1) := by
      rw [c.eq, List.range_succ_eq_map, List.map_cons, List.map_map]
      rfl
    rw [e1, List.range_succ, List.map_append]
    show (List.range k).map _ ++ [f 0] = _
    have := c.per 0
    rw [Nat.zero_add] at this
    rw [← this]
    rfl
  refine ⟨n0, hl, ?_, fun i => c.nx (i + 1), fun i => ?_⟩
  · refine List.Perm.nodup (l := l) ?_ c.nd
    have h := List.perm_append_comm (l₁ := l.take 1) (l₂ := l.drop 1)
    rw [List.take_append_drop] at h
    exact h
  · show f (i + n + 1) = f (i + 1)
    rw [show i + n + 1 = (i + 1) + n by omega, c.per]
end
/-- stops, one before the other -/
def ltS (s t : Nat × Nat) : Bool := if s.1 = t.1 then decide (s.2 < t.2) else decide (s.1 < t.1)
theorem ltS_iff {s t : Nat × Nat} : ltS s t = true ↔ s.1 < t.1 ∨ (s.1 = t.1 ∧ s.2 < t.2) := by
  unfold ltS
  split
  · rename_i h
    rw [decide_eq_true_iff]
    omega
  · rename_i h
    rw [decide_eq_true_iff]
    omega
theorem ltS_no {s t : Nat × Nat} : ltS s t = false ↔ ¬ (s.1 < t.1 ∨ (s.1 = t.1 ∧ s.2 < t.2)) := by
  rw [← ltS_iff]
  cases ltS s t <;> simp
theorem ltS_anti {s t : Nat × Nat} (h1 : ltS s t = false) (h2 : ltS t s = false) : s = t := by
  have a := ltS_no.mp h1
  have b := ltS_no.mp h2
  exact Prod.ext (by omega) (by omega)
theorem ltS_trans {s t u : Nat × Nat} (h1 : ltS s t = true) (h2 : ltS t u = true) : ltS s u = true := by
  have a := ltS_iff.mp h1
  have b := ltS_iff.mp h2
  exact ltS_iff.mpr (by omega)
/-- the least stop -/
def minS (x : Nat × Nat) (xs : List (Nat × Nat)) : Nat × Nat := xs.foldl (fun a y => if ltS y a then y else a) x
theorem minS_spec : ∀ (xs : List (Nat × Nat)) (x : Nat × Nat), minS x xs ∈ x :: xs ∧ ∀ y ∈ x :: xs, ltS y (minS x xs) = false
  | [], x => ⟨List.mem_cons_self, fun y hy => by
      rw [List.mem_singleton.mp hy]
      exact ltS_no.mpr (by show ¬ (x.1 < x.1 ∨ (x.1 = x.1 ∧ x.2 < x.2)); omega)⟩
  | z :: r, x => by
    show minS (if ltS z x then z else x) r ∈ _ ∧ ∀ y ∈ _, ltS y (minS (if ltS z x then z else x) r) = false
    obtain ⟨h1, h2⟩ := minS_spec r (if ltS z x then z else x)
    generalize hw : (if ltS z x then z else x) = w at h1 h2
    have hwm : w = z ∨ w = x := by
      rw [← hw]
      split
      · exact .inl rfl
      · exact .inr rfl
    have hwl : ltS z w = false ∧ ltS x w = false := by
      by_cases c : ltS z x = true
      · rw [if_pos c] at hw
        subst hw
        have := ltS_iff.mp c
        exact ⟨ltS_no.mpr (by omega), ltS_no.mpr (by omega)⟩
      · rw [if_neg c] at hw
        subst hw
        exact ⟨Bool.eq_false_iff.mpr c, ltS_no.mpr (by omega)⟩
    refine ⟨?_, fun y hy => ?_⟩
    · rcases List.mem_cons.mp h1 with e | e
      · rw [e]
        rcases hwm with e | e <;> rw [e] <;> simp
      · exact List.mem_cons_of_mem _ (List.mem_cons_of_mem _ e)
    · have key : ∀ u, ltS u w = false → ltS u (minS w r) = false := fun u hu => by
        have a := ltS_no.mp hu
        have b := ltS_no.mp (h2 w List.mem_cons_self)
        exact ltS_no.mpr (by omega)
      rcases List.mem_cons.mp hy with e | e
      · rw [e]
        exact key x hwl.2
      · rcases List.mem_cons.mp e with e | e
        · rw [e]
          exact key z hwl.1
        · exact h2 y (List.mem_cons_of_mem _ e)
/-- a list that begins with its least stop -/
def hm : List (Nat × Nat) → Bool
  | [] => false
  | x :: xs => decide (x = minS x xs)
theorem hm_iff {x : Nat × Nat} {xs : List (Nat × Nat)} : hm (x :: xs) = true ↔ ∀ y ∈ x :: xs, ltS y x = false := by
  unfold hm
  rw [decide_eq_true_iff]
  obtain ⟨h1, h2⟩ := minS_spec xs x
  constructor
  · intro e
    rw [← e] at h2
    exact h2
  · intro h
    exact ltS_anti (h2 x List.mem_cons_self) (h _ h1)
section
variable {p : Nat} {os : List Od} {l l' : List (Nat × Nat)}
theorem Cyc.cons (c : Cyc p os l) : ∃ x xs, l = x :: xs := by
  obtain ⟨f, n, c⟩ := c
  cases l with
  | nil =>
    have a := c.len
    have b := c.n0
    simp at a
    omega
  | cons x xs => exact ⟨x, xs, rfl⟩
/-- loops that share a stop and begin with their least are the same -/
theorem Cyc.uniq (c : Cyc p os l) (d : Cyc p os l') (h : hm l = true) (h' : hm l' = true) {x : Nat × Nat} (hx : x ∈ l) (hx' : x ∈ l') : l = l' := by
  obtain ⟨f, n, c⟩ := c
  obtain ⟨g, m, d⟩ := d
  obtain ⟨i, rfl⟩ := c.mem.mp hx
  obtain ⟨j, e⟩ := d.mem.mp hx'
  have hf : l[0]? = some (f 0) := c.get c.n0
  have hg : l'[0]? = some (g 0) := d.get d.n0
  have m1 : f 0 ∈ l' := c.sub d e (List.mem_of_getElem? hf)
  have m2 : g 0 ∈ l := d.sub c e.symm (List.mem_of_getElem? hg)
  refine c.eq_of_head d ?_
  cases l with
  | nil => cases hf
  | cons x xs =>
    cases l' with
    | nil => cases hg
    | cons y ys =>
      obtain rfl : x = f 0 := Option.some.inj hf
      obtain rfl : y = g 0 := Option.some.inj hg
      exact ltS_anti (hm_iff.mp h' _ m1) (hm_iff.mp h _ m2)
theorem Cyc.turn (c : Cyc p os l) : Cyc p os (l.drop 1 ++ l.take 1) := by
  obtain ⟨f, n, c⟩ := c
  exact ⟨_, _, c.turn⟩
theorem turn_mem {x : Nat × Nat} : x ∈ l.drop 1 ++ l.take 1 ↔ x ∈ l := by
  have h := List.perm_append_comm (l₁ := l.take 1) (l₂ := l.drop 1)
  rw [List.take_append_drop] at h
  exact h.mem_iff.symm
end
/-! ### the loops of a net: plain mathematics -/
theorem pst_house {p h : Nat} {os : List Od} {st : Nat × Nat} (ok : NetOk p h os) (hh : st.1 < h) : ∀ (i : Nat) {s : Nat × Nat}, stp p os i st = some s → s.1 < h
  | 0, s, e => by
    cases e
    exact hh
  | i + 1, s, e => by
    obtain ⟨c, hc, e⟩ := Option.bind_eq_some_iff.mp (show (stp p os i st).bind (hop p os) = some s from e)
    exact hop_house ok e
theorem pst_get {p i : Nat} {os : List Od} {st s : Nat × Nat} (e : stp p os i st = some s) : pst p os i st = some (plc p s) := by
  unfold pst
  rw [e]
  rfl
theorem pst_next {p i : Nat} {os : List Od} {st s t : Nat × Nat} (e : stp p os i st = some s) (e2 : stp p os (i + 1) st = some t) : pst p os 1 (plc p s) = some (plc p t) := by
  have h := pst_add (p := p) (os := os) (i := i) (j := 1) st
  rw [pst_get e, pst_get e2] at h
  exact h.symm
/-- what a letter that chases goes through again and again, from where it comes back to -/
def rawOf (p h : Nat) (os : List Od) (q : Nat × Nat) : Option (List (Nat × Nat)) := match (folR p h os q).2 with
  | none => none
  | some b => some (((folR p h os q).1.dropLast.drop b).map (plc p))
/-- the loop of a letter that comes back to its first stop -/
def lpOf (p h : Nat) (os : List Od) (q : Nat × Nat) : Option (List (Nat × Nat)) := match (folR p h os q).2 with
  | some 0 => some ((folR p h os q).1.dropLast.map (plc p))
  | _ => none
theorem raw_cycF {p h : Nat} {os : List Od} {q : Nat × Nat} {l : List (Nat × Nat)} (ok : NetOk p h os) (hh : q.1 < h) (e : rawOf p h os q = some l) : Cyc p os l ∧ (∀ x ∈ l, x.1 < h) ∧
    ∃ m s b, folR p h os q = (m ++ [s], some b) ∧ l = (m.drop b).map (plc p) ∧ plc p s ∈ l ∧ b < m.length ∧ ∀ x xs, l = x :: xs → ∃ t, m[b]? = some t ∧ x = plc p t := by
  rcases folR_cases ok hh with ⟨l', e', _⟩ | ⟨m, s, b, t, k, e', hl, hb, hs, hk, nd⟩
  · unfold rawOf at e
    rw [e'] at e
    cases e
  · unfold rawOf at e
    rw [e'] at e
    simp only [List.dropLast_concat] at e
    obtain rfl := Option.some.inj e
    have hbl : b < m.length := (List.getElem?_eq_some_iff.mp hb).1
    have hget : ∀ i, i < m.length → ∃ c, m[i]? = some c ∧ stp p os i q = some c := fun i hi => by
      have a := hl i (Nat.le_of_lt hi)
      rw [List.getElem?_append_left hi] at a
      exact ⟨m[i], List.getElem?_eq_getElem hi, a.symm.trans (List.getElem?_eq_getElem hi)⟩
    have hgs : stp p os m.length q = some s := by
      have a := hl m.length (Nat.le_refl _)
      rw [List.getElem?_append_right (Nat.le_refl _), Nat.sub_self] at a
      exact a.symm
    have hst : plc p s = plc p t := by rw [hs, plc_shf]
    have n0 : 0 < m.length - b := by omega
    let f : Nat → Nat × Nat := fun i => plc p (m.getD (b + i % (m.length - b)) (0, 0))
    have hf : ∀ i, i < m.length - b → ∃ c, m[b + i]? = some c ∧ stp p os (b + i) q = some c ∧ f i = plc p c := fun i hi => by
      obtain ⟨c, h1, h2⟩ := hget (b + i) (by omega)
      refine ⟨c, h1, h2, ?_⟩
      show plc p (m.getD (b + i % (m.length - b)) (0, 0)) = _
      rw [Nat.mod_eq_of_lt hi, List.getD_eq_getElem?_getD, h1]
      rfl
    have per : ∀ i, f (i + (m.length - b)) = f i := fun i => by
      show plc p (m.getD (b + (i + (m.length - b)) % (m.length - b)) (0, 0)) = _
      rw [Nat.add_mod_right]
    have modf : ∀ i, f (i % (m.length - b)) = f i := fun i => by
      show plc p (m.getD (b + (i % (m.length - b)) % (m.length - b)) (0, 0)) = _
      rw [Nat.mod_mod]
    have eql : (m.drop b).map (plc p) = (List.range (m.length - b)).map f := by
      refine List.ext_getElem? fun i => ?_
      rw [List.getElem?_map, List.getElem?_drop, List.getElem?_map]
      by_cases hi : i < m.length - b
      · obtain ⟨c, h1, _, h3⟩ := hf i hi
        rw [h1, List.getElem?_range hi]
        show some (plc p c) = some (f i)
        rw [h3]
      · rw [List.getElem?_eq_none (by omega), List.getElem?_eq_none (by rw [List.length_range]; omega)]
        rfl
    have nx : ∀ i, pst p os 1 (f i) = some (f (i + 1)) := fun i => by
      have hi := Nat.mod_lt i n0
      obtain ⟨c, h1, h2, h3⟩ := hf _ hi
      rw [← modf i, h3]
      by_cases z : i % (m.length - b) + 1 < m.length - b
      · obtain ⟨c', _, g2, g3⟩ := hf _ z
        have e1 : f (i + 1) = f (i % (m.length - b) + 1) := by rw [← modf (i + 1), ← modf (i % (m.length - b) + 1), Nat.mod_add_mod]
        rw [e1, g3]
        exact pst_next h2 g2
      · have e1 : f (i + 1) = f 0 := by
          rw [← modf (i + 1), ← Nat.mod_add_mod, show i % (m.length - b) + 1 = m.length - b by omega, Nat.mod_self]
        obtain ⟨c', k1, _, k3⟩ := hf 0 n0
        rw [Nat.add_zero] at k1
        obtain rfl : t = c' := Option.some.inj (hb.symm.trans k1)
        rw [e1, k3, ← hst]
        refine pst_next h2 ?_
        rw [show b + i % (m.length - b) + 1 = m.length by omega]
        exact hgs
    have nd2 : ((m.drop b).map (plc p)).Nodup := by
      rw [List.map_drop]
      exact nd.sublist (List.drop_sublist _ _)
    refine ⟨⟨f, _, n0, eql, nd2, nx, per⟩, fun x hx => ?_, m, s, b, e', rfl, ?_, hbl, fun x xs ex => ?_⟩
    · obtain ⟨c, hc, rfl⟩ := List.mem_map.mp hx
      obtain ⟨i, hi⟩ := List.getElem?_of_mem (List.mem_of_mem_drop hc)
      obtain ⟨c', k1, k2⟩ := hget i (List.getElem?_eq_some_iff.mp hi).1
      obtain rfl : c' = c := Option.some.inj (k1.symm.trans hi)
      exact (show c'.1 < h from pst_house ok hh i k2)
    · rw [hst]
      refine List.mem_map.mpr ⟨t, List.mem_of_getElem? (i := 0) ?_, rfl⟩
      rw [List.getElem?_drop]
      exact hb
    · have h0 : ((m.drop b).map (plc p))[0]? = some x := by rw [ex]; rfl
      rw [List.getElem?_map, List.getElem?_drop, Nat.add_zero, hb] at h0
      exact ⟨t, hb, (Option.some.inj h0).symm⟩
theorem lp_raw {p h : Nat} {os : List Od} {q : Nat × Nat} {l : List (Nat × Nat)} (e : lpOf p h os q = some l) : rawOf p h os q = some l := by
  unfold lpOf at e
  unfold rawOf
  split at e
  · rename_i h2
    rw [h2]
    exact e
  · cases e
theorem lp_cyc {p h : Nat} {os : List Od} {q : Nat × Nat} {l : List (Nat × Nat)} (ok : NetOk p h os) (hh : q.1 < h) (e : lpOf p h os q = some l) : Cyc p os l ∧ (∀ x ∈ l, x.1 < h) ∧ ∃ xs, l = plc p q :: xs := by
  obtain ⟨c, hx, m, s, b, e1, e2, _, hb, hd⟩ := raw_cycF ok hh (lp_raw e)
  refine ⟨c, hx, ?_⟩
  obtain ⟨x, xs, rfl⟩ := c.cons
  refine ⟨xs, ?_⟩
  obtain ⟨t, ht, rfl⟩ := hd x xs rfl
  unfold lpOf at e
  rw [e1] at e
  have b0 : b = 0 := by
    cases b with
    | zero => rfl
    | succ n => cases e
  subst b0
  have : (way p os (h * p + 1) q)[0]? = some q := by
    rw [show way p os (h * p + 1) q = rest p os (h * p + 1) (some q) from rfl, rest_succ]
    rfl
  rcases folR_cases ok hh with ⟨l', e', _⟩ | ⟨m', s', b', t', k, e', hl, _⟩
  · rw [e1] at e'
    cases e'
  · rw [e1] at e'
    have e5 := (Prod.mk.inj e').1
    have h0 := hl 0 (Nat.zero_le _)
    rw [← e5, List.getElem?_append_left hb, ht] at h0
    obtain rfl : t = q := Option.some.inj h0
    rfl
/-- a letter that is posted on a loop comes back to its first stop -/
theorem cyc_lp {p h n : Nat} {os : List Od} {l : List (Nat × Nat)} {f : Nat → Nat × Nat} (ok : NetOk p h os) (c : CycF p os l f n) (hq : (f 0).1 < h) : lpOf p h os (f 0) = some l ∧ (folR p h os (f 0)).2 = some 0 := by
  have st : ∀ i, ∃ s, stp p os i (f 0) = some s ∧ plc p s = f i := fun i => by
    have h1 := c.steps 0 i
    rw [Nat.zero_add] at h1
    exact Option.map_eq_some_iff.mp h1
  rcases folR_cases ok hq with ⟨l', _, _, hl, _⟩ | ⟨m, s, b, t, k, e', hl, hb, hs, hk, nd⟩
  · obtain ⟨s, h1, _⟩ := st l'.length
    rw [← hl, List.getElem?_eq_none (Nat.le_refl _)] at h1
    cases h1
  · have hbl : b < m.length := (List.getElem?_eq_some_iff.mp hb).1
    have n0 := c.n0
    have hmf : m.map (plc p) = (List.range m.length).map f := by
      refine List.ext_getElem? fun i => ?_
      rw [List.getElem?_map, List.getElem?_map]
      by_cases hi : i < m.length
      · have a := hl i (Nat.le_of_lt hi)
        rw [List.getElem?_append_left hi] at a
        obtain ⟨s', h1, h2⟩ := st i
        rw [a, h1, List.getElem?_range hi]
        show some (plc p s') = some (f i)
        rw [h2]
      · rw [List.getElem?_eq_none (by omega), List.getElem?_eq_none (by rw [List.length_range]; omega)]
        rfl
    have fs : f m.length = f b := by
      have a := hl m.length (Nat.le_refl _)
      rw [List.getElem?_append_right (Nat.le_refl _), Nat.sub_self] at a
      obtain ⟨s', h1, h2⟩ := st m.length
      have e1 : s = s' := Option.some.inj (a.trans h1)
      have a2 := hl b (Nat.le_of_lt hbl)
      rw [List.getElem?_append_left hbl, hb] at a2
      obtain ⟨t', h3, h4⟩ := st b
      have e2 : t = t' := Option.some.inj (a2.trans h3)
      rw [← h2, ← h4, ← e1, ← e2, hs, plc_shf]
    have hle : m.length ≤ n := by
      refine Nat.le_of_not_lt fun lt => ?_
      have a1 : (m.map (plc p))[n]? = some (f n) := by rw [hmf, List.getElem?_map, List.getElem?_range lt]; rfl
      have a2 : (m.map (plc p))[0]? = some (f 0) := by rw [hmf, List.getElem?_map, List.getElem?_range (by omega)]; rfl
      have p0 := c.per 0
      rw [Nat.zero_add] at p0
      rw [p0] at a1
      have := (List.getElem?_inj (by rw [List.length_map]; exact lt) nd).mp (a1.trans a2.symm)
      omega
    have hln : m.length = n := by
      refine Nat.le_antisymm hle (Nat.le_of_not_lt fun lt => ?_)
      have := c.inj lt (by omega) fs
      omega
    have b0 : b = 0 := by
      have p0 := c.per 0
      rw [Nat.zero_add, ← hln] at p0
      rw [p0] at fs
      exact (c.inj n0 (by omega) fs).symm
    subst b0
    unfold lpOf
    rw [e']
    refine ⟨?_, rfl⟩
    show some ((m ++ [s]).dropLast.map (plc p)) = _
    rw [List.dropLast_concat, hmf, hln, ← c.eq]
/-- the loop's turn that begins with its least stop -/
def canon (p h : Nat) (os : List Od) (l : List (Nat × Nat)) : List (Nat × Nat) := (lpOf p h os (minS (l.headD (0, 0)) l.tail)).getD []
theorem CycF.turns {p n : Nat} {os : List Od} {l : List (Nat × Nat)} {f : Nat → Nat × Nat} (c : CycF p os l f n) : ∀ i, ∃ l', CycF p os l' (fun j => f (i + j)) n ∧ ∀ x, x ∈ l' ↔ x ∈ l
  | 0 => ⟨l, by simpa using c, fun _ => Iff.rfl⟩
  | i + 1 => by
    obtain ⟨l', c', h'⟩ := c.turns i
    refine ⟨_, ?_, fun x => turn_mem.trans (h' x)⟩
    have := c'.turn
    have e : (fun j => f (i + (j + 1))) = fun j => f (i + 1 + j) := funext fun j => by rw [show i + (j + 1) = i + 1 + j by omega]
    rw [e] at this
    exact this
theorem canon_spec {p h : Nat} {os : List Od} {l : List (Nat × Nat)} (ok : NetOk p h os) (c : Cyc p os l) (hl : ∀ x ∈ l, x.1 < h) :
    Cyc p os (canon p h os l) ∧ hm (canon p h os l) = true ∧ (∀ x, x ∈ canon p h os l ↔ x ∈ l) ∧ ∃ q xs, canon p h os l = q :: xs ∧ lpOf p h os q = some (canon p h os l) ∧ plc p q = q ∧ q.1 < h := by
  obtain ⟨x, xs, rfl⟩ := c.cons
  obtain ⟨f, n, c⟩ := c
  obtain ⟨h1, h2⟩ := minS_spec xs x
  obtain ⟨i, ei⟩ := c.mem.mp h1
  obtain ⟨l', c', hm'⟩ := c.turns i
  have hq : (f (i + 0)).1 < h := by
    rw [Nat.add_zero, ← ei]
    exact hl _ h1
  obtain ⟨g1, _⟩ := cyc_lp ok c' hq
  have ec : canon p h os (x :: xs) = l' := by
    show (lpOf p h os (minS x xs)).getD [] = l'
    rw [ei]
    show (lpOf p h os (f i)).getD [] = l'
    rw [show f i = f (i + 0) from rfl, g1]
    rfl
  rw [ec]
  have h0 : l'[0]? = some (f (i + 0)) := c'.get c'.n0
  obtain ⟨y, ys, rfl⟩ := Cyc.cons ⟨_, _, c'⟩
  obtain rfl : y = f (i + 0) := Option.some.inj h0
  refine ⟨⟨_, _, c'⟩, hm_iff.mpr fun z hz => ?_, hm', _, _, rfl, g1, c.place _, hq⟩
  show ltS z (f i) = false
  rw [← ei]
  exact h2 z ((hm' z).mp hz)
theorem canon_eq {p h : Nat} {os : List Od} {l l' : List (Nat × Nat)} (ok : NetOk p h os) (c : Cyc p os l) (hl : ∀ x ∈ l, x.1 < h) (c' : Cyc p os l') (hm' : hm l' = true) {x : Nat × Nat} (hx : x ∈ l) (hx' : x ∈ l') : canon p h os l = l' := by
  obtain ⟨a1, a2, a3, _⟩ := canon_spec ok c hl
  exact a1.uniq c' a2 hm' ((a3 x).mpr hx) hx'
/-- all letters of a period -/
def lets (p h : Nat) : List (Nat × Nat) := (List.range h).flatMap fun a => (List.range p).map fun d => (a, d)
theorem mem_lets {p h : Nat} {q : Nat × Nat} : q ∈ lets p h ↔ q.1 < h ∧ q.2 < p := by
  unfold lets
  rw [List.mem_flatMap]
  constructor
  · rintro ⟨a, ha, hq⟩
    obtain ⟨d, hd, rfl⟩ := List.mem_map.mp hq
    exact ⟨List.mem_range.mp ha, List.mem_range.mp hd⟩
  · rintro ⟨h1, h2⟩
    exact ⟨q.1, List.mem_range.mpr h1, List.mem_map.mpr ⟨q.2, List.mem_range.mpr h2, rfl⟩⟩
theorem lets_pw {p h : Nat} : (lets p h).Pairwise fun a b => ltS a b = true := by
  unfold lets
  rw [List.pairwise_flatMap]
  refine ⟨fun a _ => ?_, ?_⟩
  · rw [List.pairwise_map]
    exact List.pairwise_lt_range.imp (R := fun x y => x < y) (S := fun d e => ltS (a, d) (a, e) = true) fun {d e} q => ltS_iff.mpr (.inr ⟨rfl, q⟩)
  · refine List.pairwise_lt_range.imp fun {a b} q => ?_
    intro x hx y hy
    obtain ⟨_, _, rfl⟩ := List.mem_map.mp hx
    obtain ⟨_, _, rfl⟩ := List.mem_map.mp hy
    exact ltS_iff.mpr (.inl q)
theorem lets_plc {p h : Nat} {q : Nat × Nat} (hq : q ∈ lets p h) : plc p q = q := by
  obtain ⟨_, h2⟩ := mem_lets.mp hq
  unfold plc
  rw [Nat.mod_eq_of_lt h2]
theorem lets_len {p h : Nat} : (lets p h).length = h * p := by
  unfold lets
  rw [List.length_flatMap]
  simp only [List.length_map, List.length_range]
  induction h with
  | zero => simp
  | succ h ih => rw [List.range_succ, List.map_append, List.sum_append, ih, Nat.succ_mul]; simp
/-- the loop that a letter's least stop begins -/
def goodL (p h : Nat) (os : List Od) (q : Nat × Nat) : Option (List (Nat × Nat)) := match lpOf p h os q with
  | some l => if hm l = true then some l else none
  | none => none
def loopsN (p h : Nat) (os : List Od) : List (List (Nat × Nat)) := (lets p h).filterMap (goodL p h os)
theorem goodL_some {p h : Nat} {os : List Od} {q : Nat × Nat} {l : List (Nat × Nat)} (e : goodL p h os q = some l) : lpOf p h os q = some l ∧ hm l = true := by
  unfold goodL at e
  split at e
  · rename_i l' e'
    split at e
    · rename_i hm'
      obtain rfl := Option.some.inj e
      exact ⟨e', hm'⟩
    · cases e
  · cases e
theorem goodL_of {p h : Nat} {os : List Od} {q : Nat × Nat} {l : List (Nat × Nat)} (e : lpOf p h os q = some l) (hm' : hm l = true) : goodL p h os q = some l := by
  unfold goodL
  rw [e]
  exact if_pos hm'
theorem mem_loopsN {p h : Nat} {os : List Od} (ok : NetOk p h os) {l : List (Nat × Nat)} : l ∈ loopsN p h os ↔ Cyc p os l ∧ hm l = true ∧ ∀ x ∈ l, x.1 < h := by
  unfold loopsN
  rw [List.mem_filterMap]
  constructor
  · rintro ⟨q, hq, e⟩
    obtain ⟨e1, e2⟩ := goodL_some e
    obtain ⟨c, hx, _⟩ := lp_cyc ok (mem_lets.mp hq).1 e1
    exact ⟨c, e2, hx⟩
  · rintro ⟨⟨f, n, c⟩, hm', hx⟩
    have h0 : f 0 ∈ l := c.mem.mpr ⟨0, rfl⟩
    have hp : (f 0).2 < p := by
      have := c.place 0
      have e : (f 0).2 % p = (f 0).2 := congrArg Prod.snd this
      rw [← e]
      exact Nat.mod_lt _ ok.p1
    exact ⟨f 0, mem_lets.mpr ⟨hx _ h0, hp⟩, goodL_of (cyc_lp ok c (hx _ h0)).1 hm'⟩
theorem loopsN_pw {p h : Nat} {os : List Od} (ok : NetOk p h os) : (loopsN p h os).Pairwise fun a b => ltS (a.headD (0, 0)) (b.headD (0, 0)) = true := by
  unfold loopsN
  rw [List.pairwise_filterMap]
  refine List.Pairwise.imp_of_mem ?_ (lets_pw (p := p) (h := h))
  intro a b ha hb q l el l' el'
  obtain ⟨_, _, xs, rfl⟩ := lp_cyc ok (mem_lets.mp ha).1 (goodL_some el).1
  obtain ⟨_, _, ys, rfl⟩ := lp_cyc ok (mem_lets.mp hb).1 (goodL_some el').1
  show ltS (plc p a) (plc p b) = true
  rw [lets_plc ha, lets_plc hb]
  exact q
theorem loopsN_nd {p h : Nat} {os : List Od} (ok : NetOk p h os) : (loopsN p h os).Nodup := (loopsN_pw ok).imp fun {a b} q e => by
  subst e
  have := ltS_iff.mp q
  omega
/-- what the law finds, letter by letter -/
def fndF (p h : Nat) (os : List Od) (acc : List (List (Nat × Nat))) (q : Nat × Nat) : List (List (Nat × Nat)) := match rawOf p h os q with
  | none => acc
  | some l => if canon p h os l ∈ acc then acc else acc ++ [canon p h os l]
def fnd (p h : Nat) (os : List Od) (qs : List (Nat × Nat)) : List (List (Nat × Nat)) := qs.foldl (fndF p h os) []
theorem fnd_snoc {p h : Nat} {os : List Od} {qs : List (Nat × Nat)} {q : Nat × Nat} : fnd p h os (qs ++ [q]) = fndF p h os (fnd p h os qs) q := by
  unfold fnd
  rw [List.foldl_append]
  rfl
theorem fndF_mem {p h : Nat} {os : List Od} {acc : List (List (Nat × Nat))} {q : Nat × Nat} {l : List (Nat × Nat)} : l ∈ fndF p h os acc q ↔ l ∈ acc ∨ ∃ r, rawOf p h os q = some r ∧ canon p h os r = l := by
  unfold fndF
  cases e : rawOf p h os q with
  | none => simp
  | some r =>
    show l ∈ (if canon p h os r ∈ acc then acc else acc ++ [canon p h os r]) ↔ _
    split
    · rename_i hm'
      constructor
      · exact .inl
      · rintro (a | ⟨r', e', rfl⟩)
        · exact a
        · cases e'
          exact hm'
    · rw [List.mem_append, List.mem_singleton]
      constructor
      · rintro (a | a)
        · exact .inl a
        · exact .inr ⟨r, rfl, a.symm⟩
      · rintro (a | ⟨r', e', a⟩)
        · exact .inl a
        · cases e'
          exact .inr a.symm
theorem fndF_nd {p h : Nat} {os : List Od} {acc : List (List (Nat × Nat))} {q : Nat × Nat} (nd : acc.Nodup) : (fndF p h os acc q).Nodup := by
  unfold fndF
  split
  · exact nd
  · rename_i r _
    split
    · exact nd
    · rename_i hno
      rw [List.nodup_append]
      refine ⟨nd, List.nodup_cons.mpr ⟨by simp, List.nodup_nil⟩, fun a ha b hb e => ?_⟩
      rw [List.mem_singleton.mp hb] at e
      exact hno (e ▸ ha)
theorem fnd_spec {p h : Nat} {os : List Od} (qs : List (Nat × Nat)) : ∀ acc : List (List (Nat × Nat)), acc.Nodup → (qs.foldl (fndF p h os) acc).Nodup ∧ ∀ l, l ∈ qs.foldl (fndF p h os) acc ↔ l ∈ acc ∨ ∃ q ∈ qs, ∃ r, rawOf p h os q = some r ∧ canon p h os r = l := by
  induction qs with
  | nil => exact fun acc nd => ⟨nd, fun l => by simp⟩
  | cons q qs ih =>
    intro acc nd
    obtain ⟨h1, h2⟩ := ih (fndF p h os acc q) (fndF_nd nd)
    refine ⟨h1, fun l => ?_⟩
    rw [List.foldl_cons, h2, fndF_mem]
    constructor
    · rintro ((a | a) | ⟨q', hq', a⟩)
      · exact .inl a
      · exact .inr ⟨q, List.mem_cons_self, a⟩
      · exact .inr ⟨q', List.mem_cons_of_mem _ hq', a⟩
    · rintro (a | ⟨q', hq', a⟩)
      · exact .inl (.inl a)
      · rcases List.mem_cons.mp hq' with rfl | z
        · exact .inl (.inr a)
        · exact .inr ⟨q', z, a⟩
theorem fnd_perm {p h : Nat} {os : List Od} (ok : NetOk p h os) : (fnd p h os (lets p h)).Perm (loopsN p h os) := by
  obtain ⟨h1, h2⟩ := fnd_spec (p := p) (h := h) (os := os) (lets p h) [] List.nodup_nil
  refine (List.perm_ext_iff_of_nodup h1 (loopsN_nd ok)).mpr fun l => ?_
  rw [h2]
  constructor
  · rintro (a | ⟨q, hq, r, e, rfl⟩)
    · cases a
    · obtain ⟨c, hx, _⟩ := raw_cycF ok (mem_lets.mp hq).1 e
      obtain ⟨a1, a2, a3, _⟩ := canon_spec ok c hx
      exact (mem_loopsN ok).mpr ⟨a1, a2, fun x hx' => hx x ((a3 x).mp hx')⟩
  · intro hl
    obtain ⟨c, hm', hx⟩ := (mem_loopsN ok).mp hl
    obtain ⟨q, hq, e⟩ := List.mem_filterMap.mp hl
    obtain ⟨x, xs, rfl⟩ := c.cons
    exact .inr ⟨q, hq, _, lp_raw (goodL_some e).1, canon_eq ok c hx c hm' List.mem_cons_self List.mem_cons_self⟩
/-- loops that share a stop are one -/
theorem loopsN_share {p h : Nat} {os : List Od} (ok : NetOk p h os) {l l' : List (Nat × Nat)} {x : Nat × Nat} (hl : l ∈ loopsN p h os) (hl' : l' ∈ loopsN p h os) (hx : x ∈ l) (hx' : x ∈ l') : l = l' := by
  obtain ⟨c, m1, _⟩ := (mem_loopsN ok).mp hl
  obtain ⟨c', m2, _⟩ := (mem_loopsN ok).mp hl'
  exact c.uniq c' m1 m2 hx hx'
/-! ### pairs as data: their order and their least -/
section
open PySem.W (alike alikeAll dataLt minD AlikeAll)
theorem plD_alike (s t : Nat × Nat) : alike (plD s) (plD t) = true := by
  simp [plD, alike, alikeAll]
theorem plDs_alike (l : List (Nat × Nat)) : AlikeAll (l.map plD) := by
  refine ⟨fun x hx y hy => ?_, fun x hx => ?_⟩
  · obtain ⟨s, _, rfl⟩ := List.mem_map.mp hx
    obtain ⟨t, _, rfl⟩ := List.mem_map.mp hy
    exact plD_alike s t
  · obtain ⟨s, _, rfl⟩ := List.mem_map.mp hx
    intro e
    cases e
theorem int_eqv (a b : Int) : PyData.eqv (.int a) (.int b) = decide (a = b) := by
  by_cases h : a = b <;> simp [PyData.eqv, h]
theorem dataLt_pl (s t : Nat × Nat) : dataLt (plD s) (plD t) = ltS s t := by
  unfold plD ltS
  rw [PySem.W.dataLt_tuple]
  by_cases e1 : s.1 = t.1
  · rw [if_pos e1, PySem.W.dataLt_all_yes (by simp [alike]) (by rw [int_eqv, e1]; exact decide_eq_true rfl)]
    by_cases e2 : s.2 = t.2
    · rw [PySem.W.dataLt_all_yes (by simp [alike]) (by rw [int_eqv, e2]; exact decide_eq_true rfl), e2, decide_eq_false (Nat.lt_irrefl _)]
      simp [PySem.W.keyToksAll, PyProof.Rows.lexLt]
      rfl
    · rw [PySem.W.dataLt_all_no (by simp [alike]) (by rw [int_eqv]; exact decide_eq_false (by omega)), PySem.W.dataLt_int]
      by_cases c : s.2 < t.2
      · rw [decide_eq_true c, decide_eq_true (by omega)]
      · rw [decide_eq_false c, decide_eq_false (by omega)]
  · rw [if_neg e1, PySem.W.dataLt_all_no (by simp [alike]) (by rw [int_eqv]; exact decide_eq_false (by omega)), PySem.W.dataLt_int]
    by_cases c : s.1 < t.1
    · rw [decide_eq_true c, decide_eq_true (by omega)]
    · rw [decide_eq_false c, decide_eq_false (by omega)]
theorem minD_pl : ∀ (xs : List (Nat × Nat)) (x : Nat × Nat), minD (plD x) (xs.map plD) = plD (minS x xs)
  | [], x => rfl
  | y :: ys, x => by
    show minD (if dataLt (plD y) (plD x) = true then plD y else plD x) (ys.map plD) = plD (minS (if ltS y x then y else x) ys)
    rw [dataLt_pl]
    by_cases c : ltS y x = true
    · rw [if_pos c, if_pos c]
      exact minD_pl ys y
    · rw [if_neg c, if_neg c]
      exact minD_pl ys x
theorem plD_inj {s t : Nat × Nat} (e : plD s = plD t) : s = t := by
  have h := plD_eqv s t
  rw [← e] at h
  rw [PySem.SeqAt.eqv_refl _ (PySem.SeqAt.canLay_of_shaped (plD_shaped s))] at h
  exact of_decide_eq_true h.symm
/-- min of a list of stops -/
theorem min_depth (x : Nat × Nat) (xs : List (Nat × Nat)) : PyData.depthAll (plD x :: xs.map plD) ≤ 60 := by
  have := plDs_depth (x :: xs)
  rw [List.map_cons] at this
  omega
theorem min_at {H : Hp} {ws : List V} {x : Nat × Nat} {xs : List (Nat × Nat)} {i : Nat} {v : V} (hw : Paired (StopAt H) ws (x :: xs)) (hi : ws[i]? = some v) (he : (plD x :: xs.map plD)[i]? = some (minD (plD x) (xs.map plD))) : StopAt H v (minS x xs) := by
  have hil : i < (x :: xs).length := by rw [← hw.length]; exact (List.getElem?_eq_some_iff.mp hi).1
  obtain ⟨v', hv', hs⟩ := Paired.get? (i := i) hw (List.getElem?_eq_getElem hil)
  obtain rfl : v' = v := Option.some.inj (hv'.symm.trans hi)
  have e2 : ((x :: xs).map plD)[i]? = some (plD (x :: xs)[i]) := by rw [List.getElem?_map, List.getElem?_eq_getElem hil]; rfl
  rw [List.map_cons, he, minD_pl] at e2
  rw [plD_inj (Option.some.inj e2)]
  exact hs
end
/-! ### where letters are delivered: plain mathematics -/
def dst (p h : Nat) (os : List Od) (st : Nat × Nat) : Option (Nat × Nat) := destOf (folR p h os st)
theorem stp_none_add {p : Nat} {os : List Od} {i : Nat} {st : Nat × Nat} (e : stp p os i st = none) (k : Nat) : stp p os (i + k) st = none := by
  rw [stp_add, e]
  rfl
theorem stp_succ_none {p : Nat} {os : List Od} {j : Nat} {st c : Nat × Nat} (h1 : stp p os j st = some c) (h2 : hop p os c = none) : stp p os (j + 1) st = none := by
  show (stp p os j st).bind (hop p os) = none
  rw [h1]
  exact h2
theorem dst_iff {p h : Nat} {os : List Od} {st c : Nat × Nat} (ok : NetOk p h os) (hh : st.1 < h) : dst p h os st = some c ↔ ∃ j, stp p os j st = some c ∧ hop p os c = none := by
  unfold dst
  rcases folR_cases ok hh with ⟨l, e, hne, hl, _⟩ | ⟨m, s, b, t, k, e, hl, hb, hs, hk, _⟩
  · rw [e]
    show l.getLast? = some c ↔ _
    have hlen : 0 < l.length := List.length_pos_iff.mpr hne
    have hend : stp p os l.length st = none := by
      rw [← hl]
      exact List.getElem?_eq_none_iff.mpr (Nat.le_refl _)
    have hlast : l.getLast? = stp p os (l.length - 1) st := by rw [← hl, List.getLast?_eq_getElem?]
    rw [hlast]
    constructor
    · intro h1
      refine ⟨_, h1, ?_⟩
      have e2 : (stp p os (l.length - 1) st).bind (hop p os) = none := by
        have e1 : stp p os (l.length - 1 + 1) st = none := by rw [Nat.sub_add_cancel hlen]; exact hend
        exact e1
      rw [h1] at e2
      exact e2
    · rintro ⟨j, h1, h2⟩
      have e3 := stp_succ_none h1 h2
      have hj : j < l.length := by
        rcases Nat.lt_or_ge j l.length with z | z
        · exact z
        · have := stp_none_add hend (j - l.length)
          rw [show l.length + (j - l.length) = j by omega, h1] at this
          cases this
      have hj2 : ¬ j + 1 < l.length := fun z => by
        have := hl (j + 1)
        rw [e3, List.getElem?_eq_getElem z] at this
        cases this
      rw [show l.length - 1 = j by omega]
      exact h1
  · rw [e]
    show (none : Option (Nat × Nat)) = some c ↔ _
    constructor
    · intro z
      cases z
    · rintro ⟨j, h1, h2⟩
      exfalso
      have hbl : b < m.length := (List.getElem?_eq_some_iff.mp hb).1
      have g1 : stp p os b st = some t := by
        rw [← hl b (Nat.le_of_lt hbl), List.getElem?_append_left hbl]
        exact hb
      have g2 : stp p os (b + (m.length - b)) st = some (shf (p * k) t) := by
        rw [show b + (m.length - b) = m.length by omega, ← hl _ (Nat.le_refl _), List.getElem?_append_right (Nat.le_refl _), Nat.sub_self, hs]
        rfl
      have hr := stp_round (N := m.length - b) (k0 := k) rfl g1 g2 (j + 1) 0
      have n1 : 1 ≤ m.length - b := by omega
      have n2 : 1 * (j + 1) ≤ (m.length - b) * (j + 1) := Nat.mul_le_mul_right _ n1
      have e3 := stp_none_add (stp_succ_none h1 h2) (b + 0 + (m.length - b) * (j + 1) - (j + 1))
      rw [show j + 1 + (b + 0 + (m.length - b) * (j + 1) - (j + 1)) = b + 0 + (m.length - b) * (j + 1) by omega, hr, show stp p os (b + 0) st = some t from g1] at e3
      cases e3
theorem dst_end {p h : Nat} {os : List Od} {st : Nat × Nat} (ok : NetOk p h os) (hh : st.1 < h) (e : hop p os st = none) : dst p h os st = some st := (dst_iff ok hh).mpr ⟨0, rfl, e⟩
theorem dst_stp {p h : Nat} {os : List Od} {st s : Nat × Nat} {i : Nat} (ok : NetOk p h os) (hh : st.1 < h) (e : stp p os i st = some s) : dst p h os st = dst p h os s := by
  have hs := pst_house ok hh i e
  apply Option.ext
  intro c
  rw [dst_iff ok hh, dst_iff ok hs]
  constructor
  · rintro ⟨j, h1, h2⟩
    by_cases z : i ≤ j
    · refine ⟨j - i, ?_, h2⟩
      rw [show j = i + (j - i) by omega, stp_add, e] at h1
      exact h1
    · have e3 := stp_none_add (stp_succ_none h1 h2) (i - (j + 1))
      rw [show j + 1 + (i - (j + 1)) = i by omega, e] at e3
      cases e3
  · rintro ⟨j, h1, h2⟩
    refine ⟨i + j, ?_, h2⟩
    rw [stp_add, e]
    exact h1
theorem hop_shf_none {p : Nat} {os : List Od} {k : Nat} {s : Nat × Nat} : hop p os (shf (p * k) s) = none ↔ hop p os s = none := by
  rw [hop_shf, Option.map_eq_none_iff]
theorem dst_shf {p h : Nat} {os : List Od} {st : Nat × Nat} {k : Nat} (ok : NetOk p h os) (hh : st.1 < h) : dst p h os (shf (p * k) st) = (dst p h os st).map (shf (p * k)) := by
  apply Option.ext
  intro c
  rw [dst_iff ok (show (shf (p * k) st).1 < h from hh), Option.map_eq_some_iff]
  constructor
  · rintro ⟨j, h1, h2⟩
    rw [stp_shf] at h1
    obtain ⟨c', h3, rfl⟩ := Option.map_eq_some_iff.mp h1
    exact ⟨c', (dst_iff ok hh).mpr ⟨j, h3, hop_shf_none.mp h2⟩, rfl⟩
  · rintro ⟨c', h1, rfl⟩
    obtain ⟨j, h3, h4⟩ := (dst_iff ok hh).mp h1
    exact ⟨j, by rw [stp_shf, h3]; rfl, hop_shf_none.mpr h4⟩
theorem dst_cycle {p h : Nat} {os : List Od} {st : Nat × Nat} {i k : Nat} (ok : NetOk p h os) (hh : st.1 < h) (e : stp p os i st = some (shf (p * k) st)) (hk : 0 < p * k) : dst p h os st = none := by
  have h1 := dst_stp ok hh e
  rw [dst_shf ok hh] at h1
  cases q : dst p h os st with
  | none => rfl
  | some c =>
    rw [q] at h1
    have h2 : c.2 = c.2 + p * k := congrArg Prod.snd (Option.some.inj h1)
    omega
theorem dst_le {p h : Nat} {os : List Od} {st c : Nat × Nat} (ok : NetOk p h os) (hh : st.1 < h) (e : dst p h os st = some c) : st.2 ≤ c.2 := by
  obtain ⟨j, h1, _⟩ := (dst_iff ok hh).mp e
  cases j with
  | zero =>
    cases h1
    exact Nat.le_refl _
  | succ j => exact Nat.le_of_lt (stp_more (i := 0) (k := j) ok rfl (by rw [Nat.zero_add]; exact h1))
theorem dst_house {p h : Nat} {os : List Od} {st c : Nat × Nat} (ok : NetOk p h os) (hh : st.1 < h) (e : dst p h os st = some c) : c.1 < h := by
  obtain ⟨j, h1, _⟩ := (dst_iff ok hh).mp e
  exact pst_house ok hh j h1
theorem dst_plc {p h : Nat} {os : List Od} {st : Nat × Nat} (ok : NetOk p h os) (hh : st.1 < h) : dst p h os st = (dst p h os (plc p st)).map (shf (p * (st.2 / p))) := by
  rw [← dst_shf ok (show (plc p st).1 < h from hh), ← shf_plc]
/-- the goal of a letter, and how many days it takes -/
def wayOf (p h : Nat) (os : List Od) (s : Nat × Nat) : Option (Nat × Nat) := (dst p h os s).map fun g => (g.1, g.2 - s.2)
theorem wayOf_dst {p h : Nat} {os : List Od} {s : Nat × Nat} (ok : NetOk p h os) (hh : s.1 < h) : dst p h os s = (wayOf p h os s).map fun g => (g.1, s.2 + g.2) := by
  unfold wayOf
  rw [Option.map_map]
  cases q : dst p h os s with
  | none => rfl
  | some c =>
    have := dst_le ok hh q
    show some c = some (c.1, s.2 + (c.2 - s.2))
    rw [show s.2 + (c.2 - s.2) = c.2 by omega]
theorem wayOf_plc {p h : Nat} {os : List Od} {s : Nat × Nat} (ok : NetOk p h os) (hh : s.1 < h) : wayOf p h os (plc p s) = wayOf p h os s := by
  unfold wayOf
  rw [dst_plc ok hh, Option.map_map]
  cases q : dst p h os (plc p s) with
  | none => rfl
  | some c =>
    show some (c.1, c.2 - s.2 % p) = some (c.1, c.2 + p * (s.2 / p) - s.2)
    have := Nat.div_add_mod s.2 p
    rw [show c.2 + p * (s.2 / p) - s.2 = c.2 - s.2 % p by omega]
theorem dst_way {p h : Nat} {os : List Od} {s : Nat × Nat} (ok : NetOk p h os) (hh : s.1 < h) : dst p h os s = (wayOf p h os (plc p s)).map fun g => (g.1, s.2 + g.2) := by
  rw [wayOf_plc ok hh]
  exact wayOf_dst ok hh
/-- the table of ways: keys and values -/
def wkv (p : Nat) (ks : List (Nat × Nat)) (f : Nat × Nat → V) : List (List Key × V) := ks.map fun s => (keyOf p s, f s)
def setF (f : Nat × Nat → V) (q : Nat × Nat) (v : V) : Nat × Nat → V := fun s => if s = q then v else f s
theorem key_plc {p : Nat} {s : Nat × Nat} : keyOf p (plc p s) = keyOf p s := keyOf_eq.mpr (plc_plc s)
theorem key_at {p : Nat} {q s : Nat × Nat} (hq : plc p q = q) : keyOf p q = keyOf p s ↔ q = plc p s := by
  rw [keyOf_eq, hq]
theorem wkv_val {p : Nat} {f : Nat × Nat → V} {s : Nat × Nat} : ∀ {ks : List (Nat × Nat)}, (∀ q ∈ ks, plc p q = q) → valV (wkv p ks f) (keyOf p s) = if plc p s ∈ ks then some (f (plc p s)) else none
  | [], _ => rfl
  | q :: ks, h => by
    have hq := h q List.mem_cons_self
    have ih := wkv_val (p := p) (f := f) (s := s) fun r hr => h r (List.mem_cons_of_mem _ hr)
    by_cases c : q = plc p s
    · rw [if_pos (by rw [c]; exact List.mem_cons_self)]
      show valV ((keyOf p q, f q) :: wkv p ks f) (keyOf p s) = _
      rw [valV_pos ((key_at hq).mpr c), c]
    · show valV ((keyOf p q, f q) :: wkv p ks f) (keyOf p s) = _
      rw [valV_neg fun z => c ((key_at hq).mp z), ih]
      by_cases m : plc p s ∈ ks
      · rw [if_pos m, if_pos (List.mem_cons_of_mem _ m)]
      · rw [if_neg m, if_neg fun z => (List.mem_cons.mp z).elim (fun e => c e.symm) m]
theorem wkv_ext {p : Nat} {f g : Nat × Nat → V} {ks : List (Nat × Nat)} (h : ∀ q ∈ ks, f q = g q) : wkv p ks f = wkv p ks g := by
  unfold wkv
  exact List.map_congr_left fun q hq => by rw [h q hq]
theorem wkv_new {p : Nat} {f : Nat × Nat → V} {s : Nat × Nat} {v : V} {ks : List (Nat × Nat)} (h : ∀ q ∈ ks, plc p q = q) (hn : plc p s ∉ ks) : putK (wkv p ks f) (keyOf p s) v = wkv p (ks ++ [plc p s]) (setF f (plc p s) v) := by
  rw [Cp.putK_new (by rw [wkv_val h, if_neg hn])]
  show _ = wkv p (ks ++ [plc p s]) _
  unfold wkv
  rw [List.map_append]
  congr 1
  · exact List.map_congr_left fun q hq => by
      show (keyOf p q, f q) = (keyOf p q, if q = plc p s then v else f q)
      rw [if_neg fun e : q = plc p s => hn (e ▸ hq)]
  · show [(keyOf p s, v)] = [(keyOf p (plc p s), setF f (plc p s) v (plc p s))]
    unfold setF
    rw [if_pos rfl, key_plc]
theorem wkv_old {p : Nat} {f : Nat × Nat → V} {s : Nat × Nat} {v : V} {ks : List (Nat × Nat)} (h : ∀ q ∈ ks, plc p q = q) (hn : plc p s ∈ ks) : putK (wkv p ks f) (keyOf p s) v = wkv p ks (setF f (plc p s) v) := by
  unfold putK
  have e : ((wkv p ks f).any fun kv => decide (kv.1 = keyOf p s)) = true := by
    rw [valV_any, wkv_val h, if_pos hn]
    rfl
  rw [if_pos e]
  unfold wkv
  rw [List.map_map]
  refine List.map_congr_left fun q hq => ?_
  show (if keyOf p q = keyOf p s then (keyOf p q, v) else (keyOf p q, f q)) = (keyOf p q, setF f (plc p s) v q)
  unfold setF
  by_cases c : q = plc p s
  · rw [if_pos ((key_at (h q hq)).mpr c), if_pos c]
  · rw [if_neg fun z => c ((key_at (h q hq)).mp z), if_neg c]
/-! ### comprehensions that choose from a range, or from a list of numbers -/
theorem take_filter {α : Type} {f : α → Bool} {l : List α} {i : Nat} {q : α} (e : l[i]? = some q) : (l.take (i + 1)).filter f = (l.take i).filter f ++ (if f q = true then [q] else []) := by
  rw [List.take_add_one, e, List.filter_append]
  by_cases c : f q = true <;> simp [c]
theorem nints_len {l : List Nat} : (nints l).length = l.length := by
  unfold nints
  rw [List.length_map]
theorem nints_app {l m : List Nat} : nints (l ++ m) = nints l ++ nints m := by
  unfold nints
  rw [List.map_append]
theorem nints_V {l : List Nat} : nints l = (l.map fun (n : Nat) => (n : Int)).map V.int := by
  unfold nints
  rw [List.map_map]
  rfl
theorem nints_get {l : List Nat} {i : Nat} {v : V} (h : (nints l)[i]? = some v) : ∃ n, l[i]? = some n ∧ v = .int (n : Nat) := by
  unfold nints at h
  rw [List.getElem?_map, Option.map_eq_some_iff] at h
  obtain ⟨n, h1, h2⟩ := h
  exact ⟨n, h1, h2.symm⟩
theorem lc_rfilt {m : Int} {n v : Nat} {tt : TT} {σ : L2.St} {H1 : Hp} {D : Addr} {Qd : Hp → Prop} (f : Nat → Bool) (hm : m.toNat = n) (hn : n ≤ 1000)
    (hw : ∀ x, wipe ((wipe σ [v]).set v x) [v] = wipe σ [v]) (hv : ∀ x, ((wipe σ [v]).set v x)[v]? = some x)
    (ht : ∀ (i : Nat) l (Q : Bool → Hp → Prop), i < n → Q (f i) (upd H1 D (.lst l)) → tt ((wipe σ [v]).set v (some (.int (i : Nat)))) (upd H1 D (.lst l)) Q)
    (hd : Qd (upd H1 D (.lst (nints ((List.range n).filter f))))) :
    ∃ W : Nat → Nat → Hp → Prop, (∃ k, W 0 k (upd H1 D (.lst []))) ∧ ∀ i k H, W i k H →
      ((Itr 0 m.toNat).stop i H ∧ Qd H) ∨ ((Itr 0 m.toNat).go i H ∧ ∃ Nx : Hp → Prop, (∀ H', Nx H' → ∃ k', k' < k ∧ W (i + 1) k' H') ∧ ∀ x H', (Itr 0 m.toNat).yld i H x H' → gName v x (wipe σ [v]) H' fun σ2 H2 => wipe σ2 [v] = wipe σ [v] ∧ tt σ2 H2 fun b H3 =>
        if b = true then tVar v σ2 H3 fun y H4 => ∃ acc, H4 D = some (.lst acc) ∧ acc.length < sizeLine ∧ Nx (upd H4 D (.lst (acc ++ [y]))) else Nx H3) := by
  subst hm
  refine lc_range (lo := 0) (n := m.toNat) (fun i H' => H' = upd H1 D (.lst (nints ((List.range i).filter f)))) rfl ?_ (fun H' e => by rw [e]; exact hd)
  rintro i H' hi rfl
  rw [show (0 : Int) + (i : Int) = (i : Nat) from Int.zero_add _]
  refine ⟨hw _, ht i _ _ hi ?_⟩
  rw [filter_range_succ']
  by_cases c : f i = true
  · rw [c, if_pos rfl, if_pos rfl]
    refine ⟨_, hv _, _, upd_same, ?_, ?_⟩
    · rw [nints_len]
      exact small1000 (Nat.le_trans (List.length_filter_le _ _) (by rw [List.length_range]; omega))
    · rw [upd_upd, nints_app]
      rfl
  · rw [Bool.eq_false_iff.mpr c, if_neg Bool.false_ne_true, if_neg Bool.false_ne_true, List.append_nil]
theorem lc_lfilt {K : PySem.W.Frag} {a : Addr} {l : List Nat} {v : Nat} {tt : TT} {σ : L2.St} {H1 : Hp} {D : Addr} {Qd : Hp → Prop} (f : Nat → Bool) (hn : l.length ≤ 1000) (ha : H1 a = some (.lst (nints l))) (naD : a ≠ D)
    (hw : ∀ x, wipe ((wipe σ [v]).set v x) [v] = wipe σ [v]) (hv : ∀ x, ((wipe σ [v]).set v x)[v]? = some x)
    (ht : ∀ (i k : Nat) us (Q : Bool → Hp → Prop), l[i]? = some k → Q (f k) (upd H1 D (.lst us)) → tt ((wipe σ [v]).set v (some (.int (k : Nat)))) (upd H1 D (.lst us)) Q)
    (hd : Qd (upd H1 D (.lst (nints (l.filter f))))) :
    ∃ W : Nat → Nat → Hp → Prop, (∃ k, W 0 k (upd H1 D (.lst []))) ∧ ∀ i k H, W i k H →
      ((Itl K a).stop i H ∧ Qd H) ∨ ((Itl K a).go i H ∧ ∃ Nx : Hp → Prop, (∀ H', Nx H' → ∃ k', k' < k ∧ W (i + 1) k' H') ∧ ∀ x H', (Itl K a).yld i H x H' → gName v x (wipe σ [v]) H' fun σ2 H2 => wipe σ2 [v] = wipe σ [v] ∧ tt σ2 H2 fun b H3 =>
        if b = true then tVar v σ2 H3 fun y H4 => ∃ acc, H4 D = some (.lst acc) ∧ acc.length < sizeLine ∧ Nx (upd H4 D (.lst (acc ++ [y]))) else Nx H3) := by
  refine lc_list (K := K) (a := a) (xs := nints l) (fun i H' => H' = upd H1 D (.lst (nints ((l.take i).filter f)))) rfl (fun i H' _ e => by rw [e]; exact SqL.of ((upd_ne naD).trans ha)) ?_ (fun H' e => by
    rw [e, nints_len, List.take_of_length_le (Nat.le_refl _)]
    exact hd)
  rintro i x H' hi rfl
  obtain ⟨k, hk, rfl⟩ := nints_get hi
  refine ⟨hw _, ht i k _ _ hk ?_⟩
  have il := (List.getElem?_eq_some_iff.mp hk).1
  rw [take_filter hk]
  by_cases c : f k = true
  · rw [c, if_pos rfl, if_pos rfl]
    refine ⟨_, hv _, _, upd_same, ?_, ?_⟩
    · rw [nints_len]
      exact small1000 (Nat.le_trans (List.length_filter_le _ _) (by rw [List.length_take]; omega))
    · rw [upd_upd, nints_app]
      rfl
  · rw [Bool.eq_false_iff.mpr c, if_neg Bool.false_ne_true, if_neg Bool.false_ne_true, List.append_nil]
theorem lc_rfiltS {m : Int} {n v : Nat} {tt : TT} {σ : L2.St} {H1 : Hp} {D : Addr} {Qd : Hp → Prop} (f : Nat → Bool) (hm : m.toNat = n) (hn : n ≤ 1000) (nD : H1 D = none)
    (hw : ∀ x, wipe ((wipe σ [v]).set v x) [v] = wipe σ [v]) (hv : ∀ x, ((wipe σ [v]).set v x)[v]? = some x)
    (ht : ∀ (i : Nat) H2 (Q : Bool → Hp → Prop), i < n → Same H1 H2 → (∀ H3, Same H2 H3 → Q (f i) H3) → tt ((wipe σ [v]).set v (some (.int (i : Nat)))) H2 Q)
    (hd : ∀ H', Same H1 H' → H' D = some (.lst (nints ((List.range n).filter f))) → Qd H') :
    ∃ W : Nat → Nat → Hp → Prop, (∃ k, W 0 k (upd H1 D (.lst []))) ∧ ∀ i k H, W i k H →
      ((Itr 0 m.toNat).stop i H ∧ Qd H) ∨ ((Itr 0 m.toNat).go i H ∧ ∃ Nx : Hp → Prop, (∀ H', Nx H' → ∃ k', k' < k ∧ W (i + 1) k' H') ∧ ∀ x H', (Itr 0 m.toNat).yld i H x H' → gName v x (wipe σ [v]) H' fun σ2 H2 => wipe σ2 [v] = wipe σ [v] ∧ tt σ2 H2 fun b H3 =>
        if b = true then tVar v σ2 H3 fun y H4 => ∃ acc, H4 D = some (.lst acc) ∧ acc.length < sizeLine ∧ Nx (upd H4 D (.lst (acc ++ [y]))) else Nx H3) := by
  subst hm
  refine lc_range (lo := 0) (n := m.toNat) (fun i H' => Same H1 H' ∧ H' D = some (.lst (nints ((List.range i).filter f)))) ⟨same_upd nD, upd_same⟩ ?_ (fun H' e => hd H' e.1 e.2)
  rintro i H' hi ⟨s', hD⟩
  rw [show (0 : Int) + (i : Int) = (i : Nat) from Int.zero_add _]
  refine ⟨hw _, ht i _ _ hi s' fun H3 s3 => ?_⟩
  have hD3 := s3 _ _ hD
  rw [filter_range_succ']
  by_cases c : f i = true
  · rw [c, if_pos rfl, if_pos rfl]
    refine ⟨_, hv _, _, hD3, ?_, fun b o e => ?_, ?_⟩
    · rw [nints_len]
      exact small1000 (Nat.le_trans (List.length_filter_le _ _) (by rw [List.length_range]; omega))
    · rw [upd_ne (ne_of_none e nD)]
      exact s3 _ _ (s' _ _ e)
    · rw [upd_same, nints_app]
      rfl
  · rw [Bool.eq_false_iff.mpr c, if_neg Bool.false_ne_true, if_neg Bool.false_ne_true, List.append_nil]
    exact ⟨s'.trans s3, hD3⟩
/-! ### results and lists of stops as data -/
section
open PySem.W (alike alikeAll dataLt AllAlike Sortable dataLe)
theorem plD_depth (b : Nat × Nat) : (plD b).depth ≤ 60 := by
  have e : (plD b).depth = 1 := by simp [plD, PyData.depth, PyData.depthAll]
  omega
def optD : Option (Nat × Nat) → PyData
  | none => .none
  | some s => plD s
theorem opt_dp {K : PySem.W.Frag} {H : Hp} {v : V} {o : Option (Nat × Nat)} (h : OptStop H v o) : Dp K H v (optD o) := by
  cases o with
  | none =>
    obtain rfl : v = .non := h
    exact .non
  | some s => exact stop_dp h
theorem optD_shaped (o : Option (Nat × Nat)) : PySem.SeqAt.shaped (optD o) = true := by
  cases o with
  | none => rfl
  | some s => exact plD_shaped s
theorem optD_eqv (a b : Option (Nat × Nat)) : PyData.eqv (optD a) (optD b) = decide (a = b) := by
  cases a with
  | none =>
    cases b with
    | none => simp [optD, PyData.eqv]
    | some t => simp [optD, plD, PyData.eqv]
  | some s =>
    cases b with
    | none => simp [optD, plD, PyData.eqv]
    | some t =>
      show PyData.eqv (plD s) (plD t) = _
      rw [plD_eqv]
      by_cases c : s = t
      · rw [decide_eq_true c, decide_eq_true (by rw [c])]
      · rw [decide_eq_false c, decide_eq_false fun e => c (Option.some.inj e)]
theorem plA_eqv : ∀ a b : List (Nat × Nat), PyData.eqvAll (a.map plD) (b.map plD) = decide (a = b)
  | [], [] => by simp [PyData.eqvAll]
  | [], _ :: _ => by simp [PyData.eqvAll]
  | _ :: _, [] => by simp [PyData.eqvAll]
  | x :: xs, y :: ys => by
    rw [List.map_cons, List.map_cons, PySem.W.eqv_all_cons, plD_eqv, plA_eqv xs ys]
    by_cases h1 : x = y <;> by_cases h2 : xs = ys <;> simp [h1, h2]
theorem plL_eqv (a b : List (Nat × Nat)) : PyData.eqv (.list (a.map plD)) (.list (b.map plD)) = decide (a = b) := by
  rw [← plA_eqv]
  simp [PyData.eqv]
theorem pl_any (l : List (Nat × Nat)) (s : Nat × Nat) : ((l.map plD).any fun z => PyData.eqv z (plD s)) = decide (s ∈ l) := by
  induction l with
  | nil => simp
  | cons a l ih =>
    rw [List.map_cons, List.any_cons, ih, plD_eqv]
    by_cases h1 : a = s <;> by_cases h2 : s ∈ l <;> simp [h1, h2]
    exact fun e => h1 e.symm
end
theorem ints_empty (l : List Nat) : (!PyData.eqv (.list ((l.map fun (n : Nat) => (n : Int)).map PyData.int)) (.list [])) = !l.isEmpty := by
  cases l <;> rfl
theorem ints_empty' (l : List Nat) : PyData.eqv (.list ((l.map fun (n : Nat) => (n : Int)).map PyData.int)) (.list []) = l.isEmpty := by
  cases l <;> rfl
theorem dec_le {a b : Nat} : decide ((a : Int) ≤ (b : Int)) = decide (a ≤ b) := by
  by_cases c : a ≤ b
  · rw [decide_eq_true c, decide_eq_true (by omega)]
  · rw [decide_eq_false c, decide_eq_false (by omega)]
theorem dec_intV {a b : Nat} : decide (V.int (a : Int) = V.int (b : Int)) = decide (a = b) := by
  by_cases c : a = b
  · rw [decide_eq_true c, decide_eq_true (by rw [c])]
  · rw [decide_eq_false c, decide_eq_false fun y => c (by have := V.int.inj y; omega)]
def tNotN (t : TE) : TT := tTest (tOp (fun x y H Q => y = V.non ∧ Q (V.bl (!decide (x = .non))) H) t (tC .non))
theorem Paired.app {α β : Type} {F : α → β → Prop} : ∀ {a : List α} {b : List β} {c : List α} {d : List β}, Paired F a b → Paired F c d → Paired F (a ++ c) (b ++ d)
  | _, _, _, _, .nil, q => q
  | _, _, _, _, .cons r t, q => .cons r (Paired.app t q)
/-! ### slices and sums of tuples -/
theorem slA_case {K : PySem.W.Frag} {t0 : Addr} {ts : List V} {lo hi : Option Int} {H : Hp} {Q : VK} (ht : H t0 = some (.tup ts)) (h : ∀ b H', Same H H' → H' b = some (.tup (cutV ts lo hi)) → Q (.ref b) H') : rSlA K (.ref t0) lo hi H Q := by
  refine ⟨t0, ts, rfl, SqT.of ht, fun hf => h t0 H (.refl H) ?_, fun hn p np => h p _ (same_upd np) upd_same⟩
  unfold cutV
  rw [hf.1, hf.2, List.drop_zero, Nat.sub_zero, List.take_of_length_le (Nat.le_refl _)]
  exact ht
theorem catA_case {K : PySem.W.Frag} {a b : Addr} {xs ys : List V} {H : Hp} {Q : VK} (ha : H a = some (.tup xs)) (hb : H b = some (.tup ys)) (hl : xs.length + ys.length ≤ sizeLine) (h : ∀ c H', Same H H' → H' c = some (.tup (xs ++ ys)) → Q (.ref c) H') : rCatA K (.ref a) (.ref b) H Q := by
  refine ⟨a, b, xs, ys, rfl, rfl, SqT.of ha, SqT.of hb, hl, fun e => ?_, fun _ e => ?_, fun _ _ p np => h p _ (same_upd np) upd_same⟩
  · subst e
    exact h b H (.refl H) hb
  · subst e
    rw [List.append_nil] at h
    exact h a H (.refl H) ha
/-- the orders but the k-th -/
def wo (os : List Od) (k : Nat) : List Od := os.take k ++ os.drop (k + 1)
theorem wo_ok {p h k : Nat} {os : List Od} (ok : NetOk p h os) : NetOk p h (wo os k) := by
  refine { ok with len := ?_, ok := fun o ho => ?_ }
  · unfold wo
    rw [List.length_append, List.length_take, List.length_drop]
    have := ok.len
    omega
  · rcases List.mem_append.mp ho with z | z
    · exact ok.ok o (List.mem_of_mem_take z)
    · exact ok.ok o (List.mem_of_mem_drop z)
/-! ### slices and sums of lists -/
theorem slL_case {K : PySem.W.Frag} {a : Addr} {xs : List V} {lo hi : Option Int} {H : Hp} {Q : VK} (ha : H a = some (.lst xs)) (h : ∀ b H', Same H H' → H b = none → H' b = some (.lst (cutV xs lo hi)) → Q (.ref b) H') : rSlL K (.ref a) lo hi H Q :=
  ⟨a, xs, rfl, SqL.of ha, fun p np => h p _ (same_upd np) np upd_same⟩
theorem catL_case {a b : Addr} {xs ys : List V} {H : Hp} {Q : VK} (ha : H a = some (.lst xs)) (hb : H b = some (.lst ys)) (hl : xs.length + ys.length ≤ sizeLine) (h : ∀ c H', Same H H' → H c = none → H' c = some (.lst (xs ++ ys)) → Q (.ref c) H') : rCat (.ref a) (.ref b) H Q :=
  ⟨a, b, xs, ys, rfl, rfl, ha, hb, hl, fun p np => h p _ (same_upd np) np upd_same⟩
theorem Paired.setAt {α β : Type} {F : α → β → Prop} {x : α} {y : β} : ∀ {l1 : List α} {l2 : List β} (k : Nat), Paired F l1 l2 → F x y → Paired F (l1.set k x) (l2.set k y)
  | _, _, _, .nil, _ => .nil
  | _, _, 0, .cons _ t, q => .cons q t
  | _, _, k + 1, .cons r t, q => .cons r (Paired.setAt k t q)
/-! ### delivered by a day, on a day -/
def byDay (p h : Nat) (os : List Od) (day : Nat) (s : Nat × Nat) : Bool := match dst p h os s with
  | none => false
  | some c => decide (c.2 ≤ day)
def onDayB (p h : Nat) (os : List Od) (day : Nat) (s : Nat × Nat) : Bool := match dst p h os s with
  | none => false
  | some c => decide (c.2 = day)
theorem byDay_some {p h day : Nat} {os : List Od} {s c : Nat × Nat} (e : dst p h os s = some c) : byDay p h os day s = decide ((c.2 : Int) ≤ (day : Int)) := by
  unfold byDay
  rw [e, dec_le]
theorem onDay_some {p h day : Nat} {os : List Od} {s c : Nat × Nat} (e : dst p h os s = some c) : onDayB p h os day s = decide (V.int (c.2 : Int) = V.int (day : Int)) := by
  unfold onDayB
  rw [e, dec_intV]
theorem odK {p h s t f n e : Nat} (h1 : s < h) (h2 : t < h) (h3 : s ≠ t) (h4 : f < p) (h5 : 1 ≤ n) (h6 : n ≤ p) (h7 : 1 ≤ e) (h8 : e ≤ 9) : OdOk p h ⟨s, t, f, n, e⟩ := ⟨h1, h2, h3, h4, h5, h6, h7, h8⟩
/-! ### words and numbers -/
def digB (w : Str) : Bool := Txt.isascii w && Txt.isdigit w
def numB (w : Str) : Bool := digB w && (decide (w = "0") || (decide (w.length ≤ 3) && !decide (w.cps.toList.head? = some 48)))
/-- a word, and the number that it is, if it is one -/
structure Wk (w : Str) (v : Option Nat) : Prop where
  num : numB w = v.isSome
  int : ∀ n, v = some n → PySem.intText? w = some (n : Int)
  len : w.length ≤ 640
abbrev s_is_numeral : Stmt := top 22
abbrev N_is_numeral : List Str := ["word"]
abbrev P_is_numeral : List Str := ["word"]
theorem sc_is_numeral : FnScope N_is_numeral P_is_numeral (defScope s_is_numeral) := ⟨rfl, rfl, rfl, by decide +kernel, rfl, by decide +kernel, by decide +kernel⟩
abbrev s_read_line : Stmt := top 23
abbrev N_read_line : List Str := ["line", "word", "count", "first", "numerals", "numeral"]
abbrev P_read_line : List Str := ["line", "word", "count"]
theorem sc_read_line : FnScope N_read_line P_read_line (defScope s_read_line) := ⟨rfl, rfl, rfl, by decide +kernel, rfl, by decide +kernel, by decide +kernel⟩
def spNum : Sp := fun vs H Q _ => ∃ (w : Str), vs = [.str w] ∧ w.length ≤ 640 ∧ Q (.bl (numB w)) H
theorem digit_ne {w : Str} (h : Txt.isdigit w = true) : ∃ c r, w.cps.toList = c :: r := by
  have h1 : (decide (w.length > 0) && w.cps.all Unicode.isDigit) = true := h
  have h2 : w.length > 0 := of_decide_eq_true (Bool.and_eq_true_iff.mp h1).1
  have h3 : w.cps.toList.length > 0 := h2
  cases e : w.cps.toList with
  | nil => rw [e] at h3; cases h3
  | cons c r => exact ⟨c, r, rfl⟩
theorem one_str (c : Nat) : decide (V.str ⟨#[c]⟩ = V.str "0") = decide (c = 48) := by
  by_cases h : c = 48
  · subst h
    exact decide_eq_true (by rfl)
  · rw [decide_eq_false h]
    refine decide_eq_false fun e => h ?_
    have e2 := congrArg (fun s : Str => s.cps.toList) (V.str.inj e)
    have e3 : [c] = [48] := e2
    exact List.singleton_inj.mp e3
section
variable {P : Program} {w : World} {K : PySem.W.Frag} {mg : Str → Option Value} {base : Heap}
theorem ok_numeral {f : Addr} {fd : FuncData} (F : Fun K "is_numeral" "is_numeral" s_is_numeral f fd) (B : Blt mg) (hM : ∃ t, mg "MOST_DIGITS" = some (.int 3 t)) : FnOk P w K mg base CX0 2 f fd P_is_numeral spNum := by
  obtain ⟨tkM, hM⟩ := hM
  refine F.ok sc_is_numeral (fun vs H Q E h => ?_) (fun cdv A outer s H vs Q E hr h => ?_)
  · obtain ⟨x, rfl, _⟩ := h
    rfl
  · obtain ⟨x, rfl, hl, q⟩ := h
    refine ⟨_, pss_cons (ps_if (pt_not (PW.pt (pw_and (pt_val (pe_m0 PySem.F.slot_str_isascii PySem.F.type_str_isascii mt_isascii (pv 0))) (pw_and1 (pt_val (pe_m0 PySem.F.slot_str_isdigit PySem.F.type_str_isdigit mt_isdigit (pv 0))))))) (pss_one (ps_ret pe_bl)) pss_nil)
      (pss_one (ps_ret (pe_or (pe_cmpR op_eq (pv 0) pe_str (nomark _)) (pe_one (pe_and (pe_cmpR op_le (pe_callB call_len_str (by rfl) B.len PySem.boot_len (pa_cons (pv 0) pa_nil)) (pe_glob (v := .int 3) rfl hM ⟨_, rfl⟩) (nomark _))
        (pe_one (pe_cmpR op_ne (pe_ix ix_str (pv 0) pe_int (fun _ _ => rfl)) pe_str (nomark _)))))))), ?_⟩
    have hz : x.length ≤ sizeLine := by rw [sizeLine_eq]; omega
    have eN : numB x = (digB x && (decide (x = "0") || (decide (x.length ≤ 3) && !decide (x.cps.toList.head? = some 48)))) := rfl
    have eD : digB x = (Txt.isascii x && Txt.isdigit x) := rfl
    refine ⟨_, rfl, ⟨_, rfl⟩, x, rfl, rfl, trivial, _, rfl, ite2 (fun e1 => ?_) (fun e1 => ?_)⟩
    · refine ⟨_, rfl, ⟨_, rfl⟩, x, rfl, rfl, trivial, _, rfl, ite2 (fun e2 => ?_) (fun e2 => ?_)⟩
      · have e3 : Txt.isdigit x = false := by simpa using e2
        have e4 : numB x = false := by rw [eN, eD, e3, Bool.and_false, Bool.false_and]
        rw [e4] at q
        exact q
      · have e3 : Txt.isdigit x = true := by simpa using e2
        have e4 : numB x = (decide (x = "0") || (decide (x.length ≤ 3) && !decide (x.cps.toList.head? = some 48))) := by rw [eN, eD, e1, e3]; rfl
        rw [e4] at q
        obtain ⟨c, r, hc⟩ := digit_ne e3
        have es : decide (V.str x = V.str "0") = decide (x = "0") := by
          by_cases h : x = "0"
          · rw [decide_eq_true h, decide_eq_true (by rw [h])]
          · rw [decide_eq_false h, decide_eq_false fun e => h (V.str.inj e)]
        refine ⟨_, rfl, rfl, _, rfl, ?_⟩
        rw [es]
        refine ite2 (fun e5 => ?_) (fun e5 => ?_)
        · rw [e5, Bool.true_or] at q
          exact q
        · rw [Bool.eq_false_iff.mpr e5, Bool.false_or] at q
          refine ⟨_, rfl, x, rfl, hz, _, _, rfl, rfl, _, rfl, ?_⟩
          have el : decide ((x.length : Int) ≤ 3) = decide (x.length ≤ 3) := by
            by_cases h : x.length ≤ 3
            · rw [decide_eq_true h, decide_eq_true (by omega)]
            · rw [decide_eq_false h, decide_eq_false (by omega)]
          rw [el]
          refine ite2 (fun e6 => ?_) (fun e6 => ?_)
          · rw [e6, Bool.true_and, hc] at q
            refine ⟨_, rfl, x, 0, c, rfl, rfl, hz, by rw [hc]; exact atI_nat (j := 0) rfl, rfl, ?_⟩
            rw [one_str]
            have e7 : decide ((c :: r).head? = some 48) = decide (c = 48) := by
              by_cases h : c = 48 <;> simp [h]
            rw [e7] at q
            exact q
          · rw [Bool.eq_false_iff.mpr e6, Bool.false_and] at q
            exact q
    · have e3 : Txt.isascii x = false := Bool.eq_false_iff.mpr e1
      have e4 : numB x = false := by rw [eN, eD, e3, Bool.false_and, Bool.false_and]
      rw [e4] at q
      exact iteT q
/-- the numbers of a line, or None -/
def rowOf (word : Str) (count : Nat) (ws : List Str) (vals : List (Option Nat)) : Option (List Nat) := match ws with
  | [] => none
  | w :: _ => if w = word ∧ vals.length = count ∧ vals.all Option.isSome = true then some (vals.filterMap id) else none
def RowAt (H H' : Hp) (v : V) : Option (List Nat) → Prop
  | none => v = .non
  | some l => ∃ u, v = .ref u ∧ H u = none ∧ H' u = some (.tup (nints l))
def spLine : Sp := fun vs H Q _ => ∃ (line word w0 : Str) (count : Nat) (ws : List Str) (vals : List (Option Nat)), vs = [.str line, .str word, .int count] ∧ line.length ≤ 100000 ∧ Txt.split line " " = w0 :: ws ∧ ws.length ≤ 60 ∧ Paired Wk ws vals ∧
  ∀ H' v, Same H H' → RowAt H H' v (rowOf word count (w0 :: ws) vals) → Q v H'
theorem ok_line {f : Addr} {fd : FuncData} (F : Fun K "read_line" "read_line" s_read_line f fd) (B : Blt mg) (DN : Df P w K mg base "is_numeral" 2 P_is_numeral spNum) : FnOk P w K mg base CX0 3 f fd P_read_line spLine := by
  obtain ⟨fN, fdN, gN, kN, bN, GN⟩ := DN
  refine F.ok sc_read_line (fun vs H Q E h => ?_) (fun cdv A outer s H vs Q E hr h => ?_)
  · obtain ⟨line, word, w0, count, ws, vals, rfl, _⟩ := h
    rfl
  · obtain ⟨line, word, w0, count, ws, vals, rfl, hl, hs, hw, hp, q⟩ := h
    refine ⟨_, pss_cons (ps_asg (pe_split (pv 0) pe_str) (pg_star1 rfl (pgs_cons (pg_name (i := 3) sc_read_line.nd rfl (.inl rfl)) (pgs_star (pg_name (i := 4) sc_read_line.nd rfl (.inl rfl)) pgs_nil))))
      (pss_cons (ps_if (PW.pt (pw_or (pt_cmpR op_ne (pv 3) (pv 1) (nomark _)) (pw_or1 (pt_cmpR op_ne (pe_callB call_len_seq (by rfl) B.len PySem.boot_len (pa_cons (pv 4) pa_nil)) (pv 2) (nomark _))))) (pss_one (ps_ret pe_non)) pss_nil)
      (pss_cons (ps_if (pt_not (pt_val (pe_callB (cr_all rfl) (by rfl) B.all PyProof.Rows.boot_all (pa_cons (pe_lc (own := [("numeral", 5)]) (g := gName 5) (tt := tYes) (te := tCall spNum [] E0 (tCons (tVar 5) tNil)) (by rfl) sc_read_line.nd (pi_list (pv 4))
            (blkOk_by (N := N_read_line) (sc := defScope s_read_line) (by decide +kernel)) (fun _ _ _ _ _ => pg_name (i := 5) sc_read_line.nd rfl (.inl rfl)) (fun _ _ _ _ _ => pts_nil) (fun _ _ _ _ _ => pe_call GN hr (by rfl) gN kN bN .nil pass0 (pa_cons (pv 5) pa_nil))) pa_nil)))) (pss_one (ps_ret pe_non)) pss_nil)
      (pss_one (ps_ret (pe_callTy call_tuple_of (by rfl) B.tuple (by decide +kernel) (pa_cons (pe_lc (own := [("numeral", 5)]) (g := gName 5) (tt := tYes) (te := tCB (fun xs H Q => ∃ a n, xs = [V.str a] ∧ PySem.intText? a = some n ∧ a.length ≤ 640 ∧ Q (.int n) H) (tCons (tVar 5) tNil)) (by rfl) sc_read_line.nd (pi_list (pv 4))
            (blkOk_by (N := N_read_line) (sc := defScope s_read_line) (by decide +kernel)) (fun _ _ _ _ _ => pg_name (i := 5) sc_read_line.nd rfl (.inl rfl)) (fun _ _ _ _ _ => pts_nil) (fun _ _ _ _ _ => pe_callTy call_int_str (by rfl) B.int (by decide +kernel) (pa_cons (pv 5) pa_nil))) pa_nil)))))), ?_⟩
    have hlen := hp.length
    refine ⟨_, rfl, ⟨_, rfl⟩, line, " ", rfl, rfl, rfl, by rw [sizeLine_eq]; omega, fun p np => ?_⟩
    rw [hs]
    have s1 := same_upd (o := HO.lst ((w0 :: ws).map V.str)) np
    refine ⟨p, .str w0, ws.map V.str, rfl, SqL.of upd_same, by rw [List.length_map]; omega, fun D nD => ?_⟩
    have s2 := same_upd (o := HO.lst (ws.map V.str)) nD
    have hD : (upd (upd H p (.lst ((w0 :: ws).map V.str))) D (.lst (ws.map V.str))) D = some (.lst (ws.map V.str)) := upd_same
    have s12 := s1.trans s2
    generalize (upd (upd H p (.lst ((w0 :: ws).map V.str))) D (.lst (ws.map V.str))) = H1 at hD s12
    refine ⟨_, _, rfl, _, _, rfl, rfl, ?_⟩
    have no : (rowOf word count (w0 :: ws) vals = none) → Q .non H1 := fun e => q H1 .non s12 (by rw [e]; rfl)
    refine ⟨_, rfl, _, rfl, rfl, _, rfl, ite2 (fun e1 => ?_) (fun e1 => ?_)⟩
    · refine no ?_
      have : w0 ≠ word := fun z => by
        rw [z, decide_eq_true rfl] at e1
        cases e1
      exact if_neg fun z => this z.1
    have ew : w0 = word := by
      by_cases z : w0 = word
      · exact z
      · exact absurd (by rw [decide_eq_false fun e => z (V.str.inj e)]; rfl) e1
    refine ⟨_, rfl, D, _, rfl, .inl (SqL.of hD), _, rfl, rfl, _, rfl, ?_⟩
    rw [List.length_map, hlen]
    refine ite2 (fun e2 => ?_) (fun e2 => ?_)
    · refine no ?_
      have : vals.length ≠ count := fun z => by
        rw [z, decide_eq_true rfl] at e2
        cases e2
      exact if_neg fun z => this z.2.1
    have ec : vals.length = count := by
      by_cases z : vals.length = count
      · exact z
      · exact absurd (by rw [decide_eq_false fun e => z (by have := V.int.inj e; omega)]; rfl) e2
    -- all of them numbers?
    refine ⟨_, rfl, D, rfl, ⟨_, SqL.of hD⟩, fun L nL => ?_⟩
    have nDL : D ≠ L := ne_of_none hD nL
    refine lc_list (K := K) (a := D) (xs := ws.map V.str) (fun k H' => H' = upd H1 L (.lst ((vals.take k).map fun o => V.bl o.isSome))) rfl (fun k H' _ e => by rw [e]; exact SqL.of ((upd_ne nDL).trans hD)) ?_ ?_
    · rintro k v H' hk rfl
      rw [List.getElem?_map] at hk
      obtain ⟨wk, hwk, rfl⟩ := Option.map_eq_some_iff.mp hk
      have lt : k < vals.length := by rw [← hlen]; exact (List.getElem?_eq_some_iff.mp hwk).1
      obtain ⟨w', hw', hx⟩ := Paired.get? (i := k) hp (List.getElem?_eq_getElem lt)
      obtain rfl : w' = wk := Option.some.inj (hw'.symm.trans hwk)
      refine ⟨rfl, _, rfl, w', rfl, hx.len, _, upd_same, ?_, ?_⟩
      · rw [List.length_map, List.length_take]
        exact small1000 (by omega)
      · rw [upd_upd, List.take_add_one, List.getElem?_eq_getElem lt, List.map_append, hx.num]
        rfl
    rintro H' rfl
    rw [List.length_map, hlen, List.take_of_length_le (Nat.le_refl _)]
    have s3 := same_upd (o := HO.lst (vals.map fun o => V.bl o.isSome)) nL
    have s13 := s12.trans s3
    have hD3 := s3 _ _ hD
    refine ⟨L, vals.map Option.isSome, rfl, ?_, _, rfl, ?_⟩
    · rw [List.map_map]
      exact SqL.of upd_same
    have eall : (vals.map Option.isSome).all id = vals.all Option.isSome := by rw [List.all_map]; rfl
    rw [eall]
    refine ite2 (fun e3 => ?_) (fun e3 => ?_)
    · have e4 : vals.all Option.isSome = false := by simpa using e3
      exact q _ .non s13 (by rw [show rowOf word count (w0 :: ws) vals = none from if_neg fun z => by rw [e4] at z; exact absurd z.2.2 Bool.false_ne_true]; rfl)
    have e4 : vals.all Option.isSome = true := by
      cases h : vals.all Option.isSome with
      | true => rfl
      | false => exact absurd (by rw [h]; rfl) e3
    have er : rowOf word count (w0 :: ws) vals = some (vals.filterMap id) := if_pos ⟨ew, ec, e4⟩
    generalize (upd H1 L (.lst (vals.map fun o => V.bl o.isSome))) = H3 at s13 hD3
    -- the numbers
    refine ⟨_, rfl, D, rfl, ⟨_, SqL.of hD3⟩, fun L2 nL2 => ?_⟩
    have nDL2 : D ≠ L2 := ne_of_none hD3 nL2
    refine lc_list (K := K) (a := D) (xs := ws.map V.str) (fun k H' => H' = upd H3 L2 (.lst (nints ((vals.take k).filterMap id)))) rfl (fun k H' _ e => by rw [e]; exact SqL.of ((upd_ne nDL2).trans hD3)) ?_ ?_
    · rintro k v H' hk rfl
      rw [List.getElem?_map] at hk
      obtain ⟨wk, hwk, rfl⟩ := Option.map_eq_some_iff.mp hk
      have lt : k < vals.length := by rw [← hlen]; exact (List.getElem?_eq_some_iff.mp hwk).1
      have ek := List.getElem?_eq_getElem lt
      obtain ⟨w', hw', hx⟩ := Paired.get? (i := k) hp ek
      obtain rfl : w' = wk := Option.some.inj (hw'.symm.trans hwk)
      have hsome := List.all_eq_true.mp e4 _ (List.mem_of_getElem? ek)
      generalize vals[k] = ok at ek hx hsome
      cases ok with
      | none => cases hsome
      | some n =>
        refine ⟨rfl, _, rfl, w', (n : Int), rfl, hx.int n rfl, hx.len, _, upd_same, ?_, ?_⟩
        · unfold nints
          rw [List.length_map]
          exact small1000 (Nat.le_trans (List.length_filterMap_le _ _) (by rw [List.length_take]; omega))
        · rw [upd_upd, List.take_add_one, ek, List.filterMap_append]
          unfold nints
          rw [List.map_append]
          rfl
    rintro H' rfl
    rw [List.length_map, hlen, List.take_of_length_le (Nat.le_refl _)]
    have s4 := same_upd (o := HO.lst (nints (vals.filterMap id))) nL2
    refine ⟨L2, _, rfl, .inl ⟨SqL.of upd_same, fun u nu => ?_⟩⟩
    have s5 := same_upd (o := HO.tup (nints (vals.filterMap id))) nu
    refine q _ _ (s13.trans (s4.trans s5)) ?_
    rw [er]
    exact ⟨u, rfl, s13.free (s4.free nu), upd_same⟩
end
/-! ### numbers as texts -/
def nT (n : Nat) : Str := Str.ofString (toString (n : Int))
def nTok (n : Nat) : Bool := numB (nT n) && decide (PySem.intText? (nT n) = some (n : Int)) && decide ((nT n).length ≤ 2) && (nT n).cps.all (fun c => decide (48 ≤ c ∧ c ≤ 57))
theorem nTok_all : (List.range 31).all nTok = true := by decide +kernel
theorem nT_ok {n : Nat} (h : n ≤ 30) : numB (nT n) = true ∧ PySem.intText? (nT n) = some (n : Int) ∧ (nT n).length ≤ 2 ∧ ∀ c ∈ (nT n).cps.toList, 48 ≤ c ∧ c ≤ 57 := by
  have h1 := List.all_eq_true.mp nTok_all n (List.mem_range.mpr (by omega))
  unfold nTok at h1
  rw [Bool.and_eq_true, Bool.and_eq_true, Bool.and_eq_true] at h1
  obtain ⟨⟨⟨a, b⟩, c⟩, d⟩ := h1
  refine ⟨a, of_decide_eq_true b, of_decide_eq_true c, fun x hx => ?_⟩
  have := Array.all_eq_true_iff_forall_mem.mp d x (Array.mem_toList_iff.mp hx)
  exact of_decide_eq_true this
/-! ### texts of nets: plain mathematics -/
theorem mem_joinL {S : List Nat} {x : Nat} : ∀ {parts : List (List Nat)}, x ∈ TL.joinL S parts → x ∈ S ∨ ∃ p ∈ parts, x ∈ p
  | [], h => by cases h
  | [p], h => .inr ⟨p, List.mem_singleton.mpr rfl, h⟩
  | p :: q :: r, h => by
    rcases List.mem_append.mp (show x ∈ p ++ (S ++ TL.joinL S (q :: r)) from h) with h | h
    · exact .inr ⟨p, List.mem_cons_self, h⟩
    · rcases List.mem_append.mp h with h | h
      · exact .inl h
      · rcases mem_joinL h with h | ⟨z, hz, h⟩
        · exact .inl h
        · exact .inr ⟨z, List.mem_cons_of_mem _ hz, h⟩
theorem mem_join {y : Str} {x : Nat} {parts : List Str} (h : x ∈ TL.tl (Txt.join y parts)) : x ∈ TL.tl y ∨ ∃ p ∈ parts, x ∈ TL.tl p := by
  rw [TL.join_eq, TL.tl_join] at h
  rcases mem_joinL h with h | ⟨z, hz, h⟩
  · exact .inl h
  · obtain ⟨p, hp, rfl⟩ := List.mem_map.mp hz
    exact .inr ⟨p, hp, h⟩
theorem len_joinL {S : List Nat} : ∀ parts : List (List Nat), (TL.joinL S parts).length ≤ (parts.map List.length).sum + parts.length * S.length
  | [] => Nat.zero_le _
  | [p] => by
    show p.length ≤ _
    simp
  | p :: q :: r => by
    have ih := len_joinL (S := S) (q :: r)
    show (p ++ (S ++ TL.joinL S (q :: r))).length ≤ _
    rw [List.length_append, List.length_append, List.map_cons, List.sum_cons, List.length_cons, Nat.succ_mul]
    omega
theorem len_join {y : Str} (parts : List Str) : (Txt.join y parts).length ≤ (parts.map (·.length)).sum + parts.length * y.length := by
  have h := len_joinL (S := TL.tl y) (parts.map TL.tl)
  rw [TL.len_tl, TL.join_eq, TL.tl_join, TL.len_tl y]
  rw [List.map_map, List.length_map] at h
  exact h
def wordsO (o : Od) : List Str := [nT o.s, nT o.t, nT o.f, nT o.n, nT o.e]
def lineNet (p h : Nat) : Str := Txt.join " " [("net" : Str), nT p, nT h]
def lineOrd (o : Od) : Str := Txt.join " " (("order" : Str) :: wordsO o)
def linesOf (p h : Nat) (os : List Od) : List Str := lineNet p h :: os.map lineOrd
def textOf (p h : Nat) (os : List Od) : Str := Txt.join "\n" (linesOf p h os)
/-- a word of digits or letters -/
def Plain (w : Str) : Prop := ∀ c ∈ TL.tl w, 33 ≤ c
theorem nT_plain {n : Nat} (h : n ≤ 30) : Plain (nT n) := fun c hc => by
  have := (nT_ok h).2.2.2 c hc
  omega
theorem net_plain : Plain "net" := by
  unfold Plain
  decide +kernel
theorem order_plain : Plain "order" := by
  unfold Plain
  decide +kernel
theorem od_le {p h : Nat} {os : List Od} {o : Od} (k : NetOk p h os) (ho : o ∈ os) : o.s ≤ 30 ∧ o.t ≤ 30 ∧ o.f ≤ 30 ∧ o.n ≤ 30 ∧ o.e ≤ 30 := by
  have a := k.ok o ho
  have := a.s; have := a.t; have := a.f; have := a.n; have := a.e; have := k.p30; have := k.h10
  omega
theorem wordsO_plain {p h : Nat} {os : List Od} {o : Od} (k : NetOk p h os) (ho : o ∈ os) : ∀ w ∈ wordsO o, Plain w := by
  obtain ⟨h1, h2, h3, h4, h5⟩ := od_le k ho
  intro w hw
  unfold wordsO at hw
  simp only [List.mem_cons, List.not_mem_nil, or_false] at hw
  rcases hw with rfl | rfl | rfl | rfl | rfl
  · exact nT_plain h1
  · exact nT_plain h2
  · exact nT_plain h3
  · exact nT_plain h4
  · exact nT_plain h5
theorem split_words {ws : List Str} (hne : ws ≠ []) (h : ∀ w ∈ ws, Plain w) : Txt.split (Txt.join " " ws) " " = ws :=
  TL.split_join (s := 32) (S := []) (by decide +kernel) (by decide +kernel) hne fun w hw hc => by
    have := h w hw 32 hc
    omega
theorem line_free {ws : List Str} (h : ∀ w ∈ ws, Plain w) : 10 ∉ TL.tl (Txt.join " " ws) := fun hc => by
  rcases mem_join hc with h1 | ⟨w, hw, h1⟩
  · have : TL.tl " " = [32] := by decide +kernel
    rw [this] at h1
    simp at h1
  · have := h w hw 10 h1
    omega
theorem split_lines {ls : List Str} (hne : ls ≠ []) (h : ∀ l ∈ ls, 10 ∉ TL.tl l) : Txt.split (Txt.join "\n" ls) "\n" = ls :=
  TL.split_join (s := 10) (S := []) (by decide +kernel) (by decide +kernel) hne h
theorem split_net {p h : Nat} (hp : p ≤ 30) (hh : h ≤ 30) : Txt.split (lineNet p h) " " = [("net" : Str), nT p, nT h] := split_words (by simp) fun w hw => by
  simp only [List.mem_cons, List.not_mem_nil, or_false] at hw
  rcases hw with rfl | rfl | rfl
  · exact net_plain
  · exact nT_plain hp
  · exact nT_plain hh
theorem split_ord {p h : Nat} {os : List Od} {o : Od} (k : NetOk p h os) (ho : o ∈ os) : Txt.split (lineOrd o) " " = ("order" : Str) :: wordsO o := split_words (by simp) fun w hw => by
  rcases List.mem_cons.mp hw with rfl | hw
  · exact order_plain
  · exact wordsO_plain k ho w hw
theorem split_text {p h : Nat} {os : List Od} (k : NetOk p h os) : Txt.split (textOf p h os) "\n" = linesOf p h os := split_lines (by unfold linesOf; simp) fun l hl => by
  have := k.p30; have := k.h10
  rcases List.mem_cons.mp hl with rfl | hl
  · refine line_free fun w hw => ?_
    simp only [List.mem_cons, List.not_mem_nil, or_false] at hw
    rcases hw with rfl | rfl | rfl
    · exact net_plain
    · exact nT_plain (by omega)
    · exact nT_plain (by omega)
  · obtain ⟨o, ho, rfl⟩ := List.mem_map.mp hl
    refine line_free fun w hw => ?_
    rcases List.mem_cons.mp hw with rfl | hw
    · exact order_plain
    · exact wordsO_plain k ho w hw
theorem len_net {p h : Nat} (hp : p ≤ 30) (hh : h ≤ 30) : (lineNet p h).length ≤ 20 := by
  refine Nat.le_trans (len_join _) ?_
  have h1 := (nT_ok hp).2.2.1
  have h2 := (nT_ok hh).2.2.1
  have h3 : ("net" : Str).length = 3 := by decide +kernel
  have h4 : (" " : Str).length = 1 := by decide +kernel
  simp [h3, h4]
  omega
theorem len_ord {p h : Nat} {os : List Od} {o : Od} (k : NetOk p h os) (ho : o ∈ os) : (lineOrd o).length ≤ 30 := by
  refine Nat.le_trans (len_join _) ?_
  obtain ⟨h1, h2, h3, h4, h5⟩ := od_le k ho
  have a1 := (nT_ok h1).2.2.1
  have a2 := (nT_ok h2).2.2.1
  have a3 := (nT_ok h3).2.2.1
  have a4 := (nT_ok h4).2.2.1
  have a5 := (nT_ok h5).2.2.1
  have a6 : ("order" : Str).length = 5 := by decide +kernel
  have a7 : (" " : Str).length = 1 := by decide +kernel
  unfold wordsO
  simp [a6, a7]
  omega
theorem lines_len {p h : Nat} {os : List Od} (k : NetOk p h os) : ∀ l ∈ linesOf p h os, l.length ≤ 30 := fun l hl => by
  have := k.p30; have := k.h10
  rcases List.mem_cons.mp hl with rfl | hl
  · exact Nat.le_trans (len_net (by omega) (by omega)) (by decide)
  · obtain ⟨o, ho, rfl⟩ := List.mem_map.mp hl
    exact len_ord k ho
theorem sum_le {l : List Nat} {m : Nat} (h : ∀ x ∈ l, x ≤ m) : l.sum ≤ l.length * m := by
  induction l with
  | nil => exact Nat.zero_le _
  | cons a l ih =>
    rw [List.sum_cons, List.length_cons, Nat.succ_mul]
    have := ih fun x hx => h x (List.mem_cons_of_mem _ hx)
    have := h a List.mem_cons_self
    omega
theorem lines_sum {p h : Nat} {os : List Od} (k : NetOk p h os) : ((linesOf p h os).map (·.length)).sum ≤ 630 := by
  refine Nat.le_trans (sum_le (m := 30) fun x hx => ?_) ?_
  · obtain ⟨l, hl, rfl⟩ := List.mem_map.mp hx
    exact lines_len k l hl
  · rw [List.length_map]
    show (os.map lineOrd).length.succ * 30 ≤ 630
    rw [List.length_map]
    have := k.len
    omega
theorem len_text {p h : Nat} {os : List Od} (k : NetOk p h os) : (textOf p h os).length ≤ 700 := by
  refine Nat.le_trans (len_join _) ?_
  have h1 := lines_sum k
  have h2 : ("\n" : Str).length = 1 := by decide +kernel
  have h3 : (linesOf p h os).length ≤ 21 := by
    show (os.map lineOrd).length.succ ≤ 21
    rw [List.length_map]
    have := k.len
    omega
  rw [h2]
  omega
theorem wk_nT {n : Nat} (h : n ≤ 30) : Wk (nT n) (some n) := ⟨(nT_ok h).1, fun m e => by
  cases e
  exact (nT_ok h).2.1, by have := (nT_ok h).2.2.1; omega⟩
/-- joined words, one behind the other -/
theorem join3 (a b c : Str) : Txt.join " " [a, b, c] = a ++ " " ++ b ++ " " ++ c := by
  rw [TL.join_eq]
  refine TL.ext_tl ?_
  rw [TL.tl_join]
  simp [TL.joinL, TL.tl_append]
theorem join6 (a b c d e f : Str) : Txt.join " " [a, b, c, d, e, f] = a ++ " " ++ b ++ " " ++ c ++ " " ++ d ++ " " ++ e ++ " " ++ f := by
  rw [TL.join_eq]
  refine TL.ext_tl ?_
  rw [TL.tl_join]
  simp [TL.joinL, TL.tl_append]
theorem cat_net : (Str.empty ++ "net " : Str) = "net" ++ " " := by decide +kernel
theorem cat_order : (Str.empty ++ "order " : Str) = "order" ++ " " := by decide +kernel
theorem cat_net' : ("net " : Str) = "net" ++ " " := by decide +kernel
/-! ### enumerate over a list, by its steps -/
theorem for_enumL {K : PySem.W.Frag} {a : Addr} {xs : List V} {g : TG} {tb : TS} {D : Ends} {σ : L2.St} {H : Hp} (Pv : Nat → L2.St → Hp → Prop) (h0 : Pv 0 σ H) (hl : ∀ i σ H, Pv i σ H → H a = some (.lst xs))
    (hs : ∀ i x σ H T, xs[i]? = some x → Pv i σ H → H T = none → g (.ref T) σ (upd H T (.tup [.int (i : Nat), x])) fun σ2 H2 => tb { D with nx := Pv (i + 1), ct := Pv (i + 1), bk := D.nx } σ2 H2) (hd : ∀ σ H, Pv xs.length σ H → D.nx σ H) :
    ∃ W : Nat → Nat → L2.St → Hp → Prop, (∃ m, W 0 m σ H) ∧ ∀ i m σ H, W i m σ H →
      ((Ite K a).stop i H ∧ D.nx σ H) ∨ ((Ite K a).go i H ∧ ∃ N : L2.St → Hp → Prop, (∀ σ' H', N σ' H' → ∃ m', m' < m ∧ W (i + 1) m' σ' H') ∧ ∀ x H', (Ite K a).yld i H x H' → g x σ H' fun σ2 H2 => tb { D with nx := N, ct := N, bk := D.nx } σ2 H2) := by
  refine ⟨fun i m σ H => m = xs.length - i ∧ i ≤ xs.length ∧ Pv i σ H, ⟨xs.length, rfl, Nat.zero_le _, h0⟩, ?_⟩
  rintro i m σ H ⟨rfl, hi, p⟩
  have q := hl i σ H p
  by_cases hlt : i < xs.length
  · refine .inr ⟨⟨xs, xs[i], SqL.of q, List.getElem?_eq_getElem hlt⟩, Pv (i + 1), fun σ' H' p' => ⟨xs.length - (i + 1), by omega, rfl, hlt, p'⟩, fun x H' y => ?_⟩
    obtain ⟨T, x', rfl, nT', rfl, f⟩ := y
    obtain rfl : x' = xs[i] := Option.some.inj ((f xs (SqL.of q)).symm.trans (List.getElem?_eq_getElem hlt))
    exact hs i _ σ H T (List.getElem?_eq_getElem hlt) p nT'
  · refine .inl ⟨⟨xs, SqL.of q, by omega⟩, hd σ H ?_⟩
    rw [show xs.length = i by omega]
    exact p
abbrev s_read_rows : Stmt := top 33
abbrev N_read_rows : List Str := ["text", "rows", "word", "count", "at", "line", "row"]
abbrev P_read_rows : List Str := ["text"]
theorem sc_read_rows : FnScope N_read_rows P_read_rows (defScope s_read_rows) := ⟨rfl, rfl, rfl, by decide +kernel, rfl, by decide +kernel, by decide +kernel⟩
/-! ### the lines of a text, read -/
/-- what is read of the k-th line -/
def LineOk (k : Nat) (line : Str) (row : List Nat) : Prop := ∃ w0 ws vals, line.length ≤ 100000 ∧ Txt.split line " " = w0 :: ws ∧ ws.length ≤ 60 ∧ Paired Wk ws vals ∧ rowOf (if k = 0 then "net" else "order") (if k = 0 then 2 else 5) (w0 :: ws) vals = some row
def RowTup (H : Hp) (v : V) (l : List Nat) : Prop := ∃ u, v = .ref u ∧ H u = some (.tup (nints l))
theorem RowTup.keep {H H' : Hp} {v : V} {l : List Nat} (k : TupKeep H H') (h : RowTup H v l) : RowTup H' v l := by
  obtain ⟨u, e, hu⟩ := h
  exact ⟨u, e, k _ _ hu⟩
def spRows : Sp := fun vs H Q _ => ∃ (text : Str) (lines : List Str) (rows : List (List Nat)), vs = [.str text] ∧ text.length ≤ 100000 ∧ Txt.split text "\n" = lines ∧ lines.length = rows.length ∧ rows.length ≤ 100 ∧ (∀ k l r, lines[k]? = some l → rows[k]? = some r → LineOk k l r) ∧
  ∀ H' r us, Same H H' → H r = none → H' r = some (.lst us) → Paired (RowTup H') us rows → Q (.ref r) H'
section
variable {P : Program} {w : World} {K : PySem.W.Frag} {mg : Str → Option Value} {base : Heap}
theorem ok_rows {f : Addr} {fd : FuncData} (F : Fun K "read_rows" "read_rows" s_read_rows f fd) (B : Blt mg) (DL : Df P w K mg base "read_line" 3 P_read_line spLine) : FnOk P w K mg base CX0 4 f fd P_read_rows spRows := by
  obtain ⟨fL, fdL, gL, kL, bL, GL⟩ := DL
  refine F.ok sc_read_rows (fun vs H Q E h => ?_) (fun cdv A outer s H vs Q E hr h => ?_)
  · obtain ⟨text, lines, rows, rfl, _⟩ := h
    rfl
  · obtain ⟨text, lines, rows, rfl, ht, hs, hl, hr100, hok, q⟩ := h
    refine ⟨_, pss_cons (ps_if (pt_not (pt_val (pe_callB call_isi (by rfl) B.isi PyProof.Rows.boot_isinstance (pa_cons (pv 0) (pa_cons (pe_bltn (v := .ty "str") (by rfl) B.str (by decide +kernel) rfl) pa_nil))))) (pss_one ps_never) pss_nil)
      (pss_cons (ps_set (i := 1) sc_read_rows.nd rfl (.inl rfl) (pe_lst pa_nil))
      (pss_cons (ps_asg (pe_tup (pa_cons pe_str (pa_cons pe_int pa_nil))) (pg_tup (by rfl) (pgs_cons (pg_name (i := 2) sc_read_rows.nd rfl (.inl rfl)) (pgs_cons (pg_name (i := 3) sc_read_rows.nd rfl (.inl rfl)) pgs_nil))))
      (pss_cons (ps_for PassesOwn.never rfl (pi_enum (by rfl) B.enum (pa_cons (pe_split (pv 0) pe_str) pa_nil)) (pg_tup (by rfl) (pgs_cons (pg_name (i := 4) sc_read_rows.nd rfl (.inl rfl)) (pgs_cons (pg_name (i := 5) sc_read_rows.nd rfl (.inl rfl)) pgs_nil)))
        (pss_cons (ps_set (i := 6) sc_read_rows.nd rfl (.inl rfl) (pe_call GL hr (by rfl) gL kL bL .nil pass0 (pa_cons (pv 5) (pa_cons (pv 2) (pa_cons (pv 3) pa_nil)))))
        (pss_cons (ps_if (pt_cmpR op_isN (pv 6) pe_non (nomark _)) (pss_one ps_never) pss_nil)
        (pss_cons (ps_expr (pe_bm PySem.F.plainAttrs_list PySem.F.slot_list_append PySem.F.type_list_append mt_append (pv 1) (pa_cons (pv 6) pa_nil)))
        (pss_one (ps_asg (pe_tup (pa_cons pe_str (pa_cons pe_int pa_nil))) (pg_tup (by rfl) (pgs_cons (pg_name (i := 2) sc_read_rows.nd rfl (.inl rfl)) (pgs_cons (pg_name (i := 3) sc_read_rows.nd rfl (.inl rfl)) pgs_nil)))))))))
      (pss_one (ps_ret (pv 1)))))), ?_⟩
    refine ⟨_, rfl, _, _, _, _, true, rfl, .ty "str", .base (.str text), kit_ty (by decide +kernel), _, rfl, iteF ?_⟩
    refine ⟨Nat.zero_le _, fun r nr => ?_⟩
    refine ⟨(by show 2 ≤ sizeLine; decide), fun k0 nk0 => ⟨k0, _, rfl, SqT.of upd_same, rfl, _, _, rfl, _, _, rfl, rfl, ?_⟩⟩
    refine ⟨_, rfl, ⟨_, rfl⟩, text, "\n", rfl, rfl, rfl, by rw [sizeLine_eq]; omega, fun sp nsp => ?_⟩
    rw [hs]
    have s1 := same_upd (o := HO.lst []) nr
    have s0 := same_upd (o := HO.tup [.str "net", .int 2]) nk0
    have s2 := same_upd (o := HO.lst (lines.map V.str)) nsp
    have nrs : r ≠ sp := ne_of_none (s0 _ _ upd_same) nsp
    refine ⟨sp, _, rfl, SqL.of upd_same, for_enumL (K := K) (a := sp) (xs := lines.map V.str) (fun i σ H' => (∃ x4 x5 x6, σ = [some (.str text), some (.ref r), some (.str (if i = 0 then "net" else "order")), some (.int ((if i = 0 then 2 else 5 : Nat) : Int)), x4, x5, x6]) ∧ Same H H' ∧ H' sp = some (.lst (lines.map V.str)) ∧ ∃ us, H' r = some (.lst us) ∧ Paired (RowTup H') us (rows.take i))
      ⟨⟨_, _, _, rfl⟩, s1.trans (s0.trans s2), upd_same, [], (upd_ne nrs).trans (s0 _ _ upd_same), .nil⟩ (fun i σ H' ⟨_, _, h', _⟩ => h') ?_ ?_⟩
    · rintro i x σ H1 T hi ⟨⟨x4, x5, x6, rfl⟩, s3, hsp, us, hus, hru⟩ nTT
      rw [List.getElem?_map] at hi
      obtain ⟨line, hline, rfl⟩ := Option.map_eq_some_iff.mp hi
      have lt : i < rows.length := by rw [← hl]; exact (List.getElem?_eq_some_iff.mp hline).1
      have ei := List.getElem?_eq_getElem lt
      obtain ⟨w0, ws, vals, a1, a2, a3, a4, a5⟩ := hok i line _ hline ei
      generalize rows[i] = row at ei a5
      have s4 := same_upd (o := HO.tup [.int (i : Nat), .str line]) nTT
      refine ⟨T, _, rfl, SqT.of upd_same, rfl, _, _, rfl, _, _, rfl, rfl, ?_⟩
      refine ⟨_, rfl, _, rfl, _, rfl, line, _, w0, (if i = 0 then 2 else 5), ws, vals, rfl, a1, a2, a3, a4, fun H2 v s5 hv => ?_⟩
      rw [a5] at hv
      obtain ⟨u, rfl, nu, hu⟩ := hv
      have s45 := s4.trans s5
      have hr2 := s45 _ _ hus
      have hsp2 := s45 _ _ hsp
      refine ⟨_, rfl, rfl, _, rfl, iteF ⟨_, rfl, .inl ⟨rfl, _, SqL.of hr2⟩, _, rfl, r, _, _, rfl, rfl, hr2, ?_, ?_⟩⟩
      · rw [hru.length, List.length_take]
        exact small1000 (by omega)
      have k := TupKeep.lst (o := HO.lst (us ++ [.ref u])) hr2
      refine ⟨(by show 2 ≤ sizeLine; decide), fun k1 nk1 => ⟨k1, _, rfl, SqT.of upd_same, rfl, _, _, rfl, _, _, rfl, rfl, ?_⟩⟩
      have s6 := same_upd (o := HO.tup [.str "order", .int 5]) nk1
      refine ⟨⟨_, _, _, rfl⟩, fun b o e => s6 _ _ ?_, s6 _ _ ((upd_ne nrs.symm).trans hsp2), us ++ [.ref u], s6 _ _ upd_same, ?_⟩
      · rw [upd_ne (ne_of_none e nr)]
        exact s45 _ _ (s3 _ _ e)
      · rw [List.take_add_one, ei]
        exact Paired.snoc (Paired.mapP hru fun _ _ z => z.keep (((tk_of s45).trans k).trans (tk_of s6))) ⟨u, rfl, s6 _ _ (k _ _ hu)⟩
    · rintro σ H1 ⟨⟨x4, x5, x6, rfl⟩, s3, hsp, us, hus, hru⟩
      rw [List.length_map, hl, List.take_of_length_le (Nat.le_refl _)] at hru
      exact ⟨_, rfl, q H1 r us s3 nr hus hru⟩
end
abbrev s_Net_text : Stmt := inClass (top 29) 5
abbrev N_Net_text : List Str := ["self", "lines", "source", "target", "first", "days", "delay"]
abbrev P_Net_text : List Str := ["self"]
theorem sc_Net_text : FnScope N_Net_text P_Net_text (defScope s_Net_text) := ⟨rfl, rfl, rfl, by decide +kernel, rfl, by decide +kernel, by decide +kernel⟩
/-! ### the text of a net -/
section
variable {P : Program} {w : World} {K : PySem.W.Frag} {mg : Str → Option Value} {base : Heap}
/-- the text of a net -/
def spText (C : Addr) : Sp := fun vs H Q _ => ∃ (x t : Addr) (p h : Nat) (os : List Od) (F : List Addr), vs = [.ref x] ∧ NetAt C H x p h os t F ∧ NetOk p h os ∧ ∀ H', Same H H' → Q (.str (textOf p h os)) H'
theorem log_small {n : Nat} (h : n ≤ 30) : ((n : Int)).natAbs.log2 < 1920 := by
  have : ((n : Int)).natAbs = n := Int.natAbs_natCast n
  rw [this]
  by_cases c : n = 0
  · subst c; decide
  · have h1 : n.log2 < 5 := (Nat.log2_lt c).mpr (Nat.lt_of_le_of_lt h (by decide))
    omega
theorem len_app (a b : Str) : (a ++ b).length = a.length + b.length := by
  rw [TL.len_tl, TL.tl_append, List.length_append, ← TL.len_tl, ← TL.len_tl]
theorem len_sp : (" " : Str).length = 1 := by decide +kernel
theorem len_net4 : (Str.empty ++ ("net " : Str)).length = 4 := by decide +kernel
theorem len_ord6 : (Str.empty ++ ("order " : Str)).length = 6 := by decide +kernel
theorem ok_text {f C : Addr} {fd : FuncData} (F : Fun K "text" "Net.text" s_Net_text f fd) (T : NetT K C) : FnOk P w K mg base CX0 2 f fd P_Net_text (spText C) := by
  refine F.ok sc_Net_text (fun vs H Q E h => ?_) (fun cdv A outer s H vs Q E hr h => ?_)
  · obtain ⟨x, t, p, h, os, F, rfl, _⟩ := h
    rfl
  · obtain ⟨x, t, p, h, os, F, rfl, Nt, nok, q⟩ := h
    refine ⟨_, pss_cons (ps_set (i := 1) sc_Net_text.nd rfl (.inl rfl) (pe_lst (pa_cons (pe_joined (.cons pe_str (.cons (pe_fmt (pe_fld (pv 0) rfl)) (.cons pe_str (.cons (pe_fmt (pe_fld (pv 0) rfl)) .nil))))) pa_nil)))
      (pss_cons (ps_for PassesOwn.never rfl (pi_tup (pe_fld (pv 0) rfl)) (pg_tup (by rfl) (pgs_cons (pg_name (i := 2) sc_Net_text.nd rfl (.inl rfl)) (pgs_cons (pg_name (i := 3) sc_Net_text.nd rfl (.inl rfl)) (pgs_cons (pg_name (i := 4) sc_Net_text.nd rfl (.inl rfl)) (pgs_cons (pg_name (i := 5) sc_Net_text.nd rfl (.inl rfl)) (pgs_cons (pg_name (i := 6) sc_Net_text.nd rfl (.inl rfl)) pgs_nil))))))
        (pss_one (ps_expr (pe_bm PySem.F.plainAttrs_list PySem.F.slot_list_append PySem.F.type_list_append mt_append (pv 1) (pa_cons (pe_joined (.cons pe_str (.cons (pe_fmt (pv 2)) (.cons pe_str (.cons (pe_fmt (pv 3)) (.cons pe_str (.cons (pe_fmt (pv 4)) (.cons pe_str (.cons (pe_fmt (pv 5)) (.cons pe_str (.cons (pe_fmt (pv 6)) .nil))))))))))) pa_nil)))))
      (pss_one (ps_ret (pe_join pe_str (pv 1))))), ?_⟩
    obtain ⟨dx, fl, as, _, hx, ⟨ts, ht, hP⟩, _⟩ := id Nt
    have p30 := nok.p30; have h10 := nok.h10; have ol := nok.len
    have hp2 := (nT_ok p30).2.2.1
    have hh2 := (nT_ok (show h ≤ 30 by omega)).2.2.1
    refine ⟨_, rfl, by rw [len_net4, sizeLine_eq]; omega, ?_⟩
    refine ⟨_, rfl, x, C, dx, _, _, rfl, hx, T.cl, T.nP, nf_pe, .inr ⟨_, rfl, log_small p30, nT p, rfl, ?_, ?_⟩⟩
    · rw [len_app, len_net4, sizeLine_eq]
      omega
    refine ⟨_, rfl, ?_, ?_⟩
    · rw [len_app, len_app, len_net4, len_sp, sizeLine_eq]
      omega
    refine ⟨_, rfl, x, C, dx, _, _, rfl, hx, T.cl, T.nH, nf_ho, .inr ⟨_, rfl, log_small (show h ≤ 30 by omega), nT h, rfl, ?_, ?_⟩⟩
    · rw [len_app, len_app, len_app, len_net4, len_sp, sizeLine_eq]
      omega
    have e1 : (((Str.empty ++ "net " : Str) ++ nT p) ++ " ") ++ nT h = lineNet p h := by
      unfold lineNet
      rw [join3, cat_net]
    refine ⟨(by show 1 ≤ sizeLine; decide), fun L nL => ?_⟩
    rw [show (V.str ((((Str.empty ++ "net ") ++ nT p) ++ " ") ++ nT h)) = V.str (lineNet p h) by rw [e1]]
    have s1 := same_upd (o := HO.lst [.str (lineNet p h)]) nL
    refine ⟨_, rfl, x, C, dx, _, _, rfl, s1 _ _ hx, T.cl, T.nO, nf_or, t, rfl, ⟨_, SqT.of (s1 _ _ ht)⟩, ?_⟩
    refine for_tup (K := K) (a := t) (xs := ts) (fun i σ H' => (∃ x2 x3 x4 x5 x6, σ = [some (.ref x), some (.ref L), x2, x3, x4, x5, x6]) ∧ H' = upd H L (.lst ((lineNet p h :: (os.take i).map lineOrd).map V.str)))
      ⟨⟨_, _, _, _, _, rfl⟩, rfl⟩ (fun i σ H' _ ⟨_, e⟩ => by rw [e]; exact SqT.of (same_upd nL _ _ ht)) ?_ ?_
    · rintro i v σ H1 hi ⟨⟨x2, x3, x4, x5, x6, rfl⟩, rfl⟩
      have hl := hP.length
      have lt : i < os.length := by rw [← hl]; exact (List.getElem?_eq_some_iff.mp hi).1
      have ei := List.getElem?_eq_getElem lt
      obtain ⟨v', hv', u, ev, hu⟩ := Paired.get? (i := i) hP ei
      obtain rfl : v' = v := Option.some.inj (hv'.symm.trans hi)
      subst ev
      have hmem := List.mem_of_getElem? ei
      generalize os[i] = o at ei hu hmem
      obtain ⟨b1, b2, b3, b4, b5⟩ := od_le nok hmem
      have c1 := (nT_ok b1).2.2.1
      have c2 := (nT_ok b2).2.2.1
      have c3 := (nT_ok b3).2.2.1
      have c4 := (nT_ok b4).2.2.1
      have c5 := (nT_ok b5).2.2.1
      have sL := same_upd (o := HO.lst ((lineNet p h :: (os.take i).map lineOrd).map V.str)) nL
      refine ⟨u, _, rfl, SqT.of (sL _ _ hu), rfl, _, _, rfl, _, _, rfl, _, _, rfl, _, _, rfl, _, _, rfl, rfl, ?_⟩
      refine ⟨_, rfl, .inl ⟨rfl, _, SqL.of upd_same⟩, ?_⟩
      refine ⟨_, rfl, by rw [len_ord6, sizeLine_eq]; omega, _, rfl, .inr ⟨_, rfl, log_small b1, nT o.s, rfl, by rw [len_app, len_ord6, sizeLine_eq]; omega, _, rfl, by rw [len_app, len_app, len_ord6, len_sp, sizeLine_eq]; omega, ?_⟩⟩
      refine ⟨_, rfl, .inr ⟨_, rfl, log_small b2, nT o.t, rfl, by rw [len_app, len_app, len_app, len_ord6, len_sp, sizeLine_eq]; omega, _, rfl, by rw [len_app, len_app, len_app, len_app, len_ord6, len_sp, sizeLine_eq]; omega, ?_⟩⟩
      refine ⟨_, rfl, .inr ⟨_, rfl, log_small b3, nT o.f, rfl, by rw [len_app, len_app, len_app, len_app, len_app, len_ord6, len_sp, sizeLine_eq]; omega, _, rfl, by rw [len_app, len_app, len_app, len_app, len_app, len_app, len_ord6, len_sp, sizeLine_eq]; omega, ?_⟩⟩
      refine ⟨_, rfl, .inr ⟨_, rfl, log_small b4, nT o.n, rfl, by rw [len_app, len_app, len_app, len_app, len_app, len_app, len_app, len_ord6, len_sp, sizeLine_eq]; omega, _, rfl, by rw [len_app, len_app, len_app, len_app, len_app, len_app, len_app, len_app, len_ord6, len_sp, sizeLine_eq]; omega, ?_⟩⟩
      refine ⟨_, rfl, .inr ⟨_, rfl, log_small b5, nT o.e, rfl, by rw [len_app, len_app, len_app, len_app, len_app, len_app, len_app, len_app, len_app, len_ord6, len_sp, sizeLine_eq]; omega, ?_⟩⟩
      refine ⟨L, _, _, rfl, rfl, upd_same, ?_, ⟨_, _, _, _, _, rfl⟩, ?_⟩
      · rw [List.length_map, List.length_cons, List.length_map, List.length_take]
        exact small1000 (by omega)
      · rw [upd_upd, List.take_add_one, ei]
        have e2 : ((((((((((Str.empty ++ "order " : Str) ++ nT o.s) ++ " ") ++ nT o.t) ++ " ") ++ nT o.f) ++ " ") ++ nT o.n) ++ " ") ++ nT o.e) = lineOrd o := by
          unfold lineOrd wordsO
          rw [join6, cat_order]
        show upd H L (.lst (((lineNet p h :: (os.take i).map lineOrd).map V.str) ++ [V.str ((((((((((Str.empty ++ "order " : Str) ++ nT o.s) ++ " ") ++ nT o.t) ++ " ") ++ nT o.f) ++ " ") ++ nT o.n) ++ " ") ++ nT o.e)])) = _
        rw [e2, Option.toList_some, List.map_append, List.map_cons, List.map_cons, List.map_append]
        rfl
    · rintro σ H1 ⟨⟨x2, x3, x4, x5, x6, rfl⟩, rfl⟩
      rw [hP.length, List.take_length]
      refine ⟨⟨_, rfl⟩, _, rfl, "\n", L, linesOf p h os, rfl, rfl, .inl (SqL.of upd_same), ?_, q _ (same_upd nL)⟩
      have h1 := lines_sum nok
      have h2 : ("\n" : Str).length = 1 := by decide +kernel
      have h3 : (linesOf p h os).length ≤ 21 := by
        show (os.map lineOrd).length.succ ≤ 21
        rw [List.length_map]
        omega
      rw [h2]
      omega
end
abbrev s_Net_parse : Stmt := inClass (top 29) 6
abbrev N_Net_parse : List Str := ["cls", "text", "rows", "period", "houses"]
abbrev P_Net_parse : List Str := ["cls", "text"]
theorem sc_Net_parse : FnScope N_Net_parse P_Net_parse (defScope s_Net_parse) := ⟨rfl, rfl, rfl, by decide +kernel, rfl, by decide +kernel, by decide +kernel⟩
/-! ### a net of its text -/
section
variable {P : Program} {w : World} {K : PySem.W.Frag} {mg : Str → Option Value} {base : Heap}
/-- a net of its text -/
def spParse (C : Addr) : Sp := fun vs H Q _ => ∃ (p h : Nat) (os : List Od), vs = [.ref C, .str (textOf p h os)] ∧ NetOk p h os ∧ ∀ H' x t F, Same H H' → (∀ b ∈ F, H b = none) → NetAt C H' x p h os t F → Q (.ref x) H'
def rowsOf (p h : Nat) (os : List Od) : List (List Nat) := [p, h] :: os.map fun o => [o.s, o.t, o.f, o.n, o.e]
theorem lines_ok {p h : Nat} {os : List Od} (k : NetOk p h os) : ∀ i l r, (linesOf p h os)[i]? = some l → (rowsOf p h os)[i]? = some r → LineOk i l r := by
  have hp30 := k.p30; have hh10 := k.h10
  intro i l r hl hr
  cases i with
  | zero =>
    obtain rfl : lineNet p h = l := Option.some.inj hl
    obtain rfl : [p, h] = r := Option.some.inj hr
    refine ⟨"net", [nT p, nT h], [some p, some h], Nat.le_trans (len_net hp30 (by omega)) (by decide), split_net hp30 (by omega), by show 2 ≤ 60; decide, .cons (wk_nT hp30) (.cons (wk_nT (by omega)) .nil), ?_⟩
    rfl
  | succ i =>
    have h1 : (os.map lineOrd)[i]? = some l := hl
    have h2 : (os.map fun o => [o.s, o.t, o.f, o.n, o.e])[i]? = some r := hr
    rw [List.getElem?_map] at h1 h2
    obtain ⟨o, ho, rfl⟩ := Option.map_eq_some_iff.mp h1
    rw [ho] at h2
    obtain rfl : [o.s, o.t, o.f, o.n, o.e] = r := Option.some.inj h2
    have hm := List.mem_of_getElem? ho
    obtain ⟨b1, b2, b3, b4, b5⟩ := od_le k hm
    refine ⟨"order", wordsO o, [some o.s, some o.t, some o.f, some o.n, some o.e], Nat.le_trans (len_ord k hm) (by decide), split_ord k hm, by show 5 ≤ 60; decide, .cons (wk_nT b1) (.cons (wk_nT b2) (.cons (wk_nT b3) (.cons (wk_nT b4) (.cons (wk_nT b5) .nil)))), ?_⟩
    rw [if_neg (Nat.succ_ne_zero i), if_neg (Nat.succ_ne_zero i)]
    rfl
theorem rows_ords {H : Hp} {us : List V} {os : List Od} (h : Paired (RowTup H) us (os.map fun o => [o.s, o.t, o.f, o.n, o.e])) : Paired (OrdAt H) us os := by
  induction os generalizing us with
  | nil =>
    cases h
    exact .nil
  | cons o os ih =>
    rw [List.map_cons] at h
    cases h with
    | cons r t =>
      obtain ⟨u, rfl, hu⟩ := r
      exact .cons ⟨u, rfl, hu⟩ (ih t)
theorem ok_parse {f C fI : Addr} {fd fdI : FuncData} (F : Fun K "parse" "Net.parse" s_Net_parse f fd) (B : Blt mg) (DR : Df P w K mg base "read_rows" 4 P_read_rows spRows) (M : Mk K C fI) (GI : FnOk P w K mg base CX0 5 fI fdI P_Net_init (spInit C)) (bI : Binds K fdI P_Net_init []) : FnOk P w K mg base CX0 7 f fd P_Net_parse (spParse C) := by
  obtain ⟨fR, fdR, gR, kR, bR, GR⟩ := DR
  refine F.ok sc_Net_parse (fun vs H Q E h => ?_) (fun cdv A outer s H vs Q E hr h => ?_)
  · obtain ⟨p, h, os, rfl, _⟩ := h
    rfl
  · obtain ⟨p, h, os, rfl, nok, q⟩ := h
    have hr3 : Room 4 _ := hr.mono (by decide)
    refine ⟨_, pss_cons (ps_set (i := 2) sc_Net_parse.nd rfl (.inl rfl) (pe_call GR hr3 (by rfl) gR kR bR .nil pass0 (pa_cons (pv 1) pa_nil)))
      (pss_cons (ps_asg (pe_ix ix_list (pv 2) pe_int (fun _ _ => rfl)) (pg_tup (by rfl) (pgs_cons (pg_name (i := 3) sc_Net_parse.nd rfl (.inl rfl)) (pgs_cons (pg_name (i := 4) sc_Net_parse.nd rfl (.inl rfl)) pgs_nil))))
      (pss_one (ps_ret (pe_makeL (i := 0) M GI hr rfl (.inl rfl) bI .nil pass0 (pa_cons (pv 3) (pa_cons (pv 4) (pa_cons (pe_callTy call_tuple_of (by rfl) B.tuple (by decide +kernel) (pa_cons (pe_slice sl_list (pv 2) (po_some pe_int) po_none) pa_nil)) pa_nil))))))), ?_⟩
    have hrl : (rowsOf p h os).length ≤ 100 := by
      show (os.map _).length.succ ≤ 100
      rw [List.length_map]
      have := nok.len
      omega
    refine ⟨_, rfl, textOf p h os, linesOf p h os, rowsOf p h os, rfl, Nat.le_trans (len_text nok) (by decide), split_text nok, ?_, hrl, lines_ok nok, fun H1 r us s1 nr hr1 hus => ?_⟩
    · show (os.map lineOrd).length.succ = (os.map _).length.succ
      rw [List.length_map, List.length_map]
    cases hus with
    | cons hu0 hus =>
    rename_i v0 us
    obtain ⟨u0, rfl, hu0⟩ := hu0
    refine ⟨_, rfl, r, _, 0, _, rfl, rfl, SqL.of hr1, atI_nat (j := 0) rfl, u0, _, rfl, SqT.of hu0, rfl, _, _, rfl, _, _, rfl, rfl, ?_⟩
    refine ⟨rfl, _, rfl, _, rfl, _, rfl, 1, rfl, r, _, rfl, SqL.of hr1, fun cl ncl => ?_⟩
    rw [show cutV (V.ref u0 :: us) (some (1 : Int)) none = (V.ref u0 :: us).drop 1 from cut_from (n := 1)]
    have s2 := same_upd (o := HO.lst ((V.ref u0 :: us).drop 1)) ncl
    refine ⟨cl, us, rfl, .inl ⟨SqL.of upd_same, fun tt ntt => ?_⟩⟩
    have s3 := same_upd (o := HO.tup us) ntt
    have s13 := s1.trans (s2.trans s3)
    have hO : OrdsTup (upd (upd H1 cl (.lst ((V.ref u0 :: us).drop 1))) tt (.tup us)) tt os := ⟨us, upd_same, Paired.mapP (rows_ords hus) fun _ _ z => z.keep (tk_of (s2.trans s3))⟩
    generalize (upd (upd H1 cl (.lst ((V.ref u0 :: us).drop 1))) tt (.tup us)) = H3 at s13 hO
    intro x dx nx ndx nex
    have s0 : Same H3 (upd (upd H3 dx (.own x)) x (.ins C dx [])) := same_updN (same_upd ndx) nx
    exact ⟨x, dx, tt, p, h, os, H3, rfl, nok, hO.keep (tk_of s0), s0, nx, upd_same, fun H' F s1 nF N => ⟨rfl, q H' x tt F (s13.trans s1) (fun b hb => s13.free (nF b hb)) N⟩⟩
end
/-! ### a def whose first row is super().__init__(e): its frame, the class's cell in the written part -/
section
open PySem.Spec PyProof.Rows
/-- the names of such a def: parameters local, one free name -/
structure SupSc (N ps : List Str) (sc : Scope) : Prop where
  kind : sc.kind = .function
  co : sc.isCoroutine = false
  gen : sc.isGenerator = false
  nd : N.Nodup
  pre : N = ps
  par : ∀ x ∈ ps, sc.names.lookup x = some .local
  nocell : ∀ y ∈ sc.names, y.2 ≠ .cell
  free : ∀ y, sc.names.lookup y = some .free → y = "__class__"
  noN : ∀ x ∈ N, x ≠ "__class__"
def supScB (N ps : List Str) (sc : Scope) : Bool :=
  decide (sc.kind = .function) && !sc.isCoroutine && !sc.isGenerator && decide N.Nodup && decide (N = ps) && (ps.all fun x => decide (sc.names.lookup x = some .local)) && (sc.names.all fun y => !decide (y.2 = .cell) && (!decide (y.2 = .free) || decide (y.1 = "__class__"))) && N.all fun x => !decide (x = "__class__")
theorem supSc_by {N ps : List Str} {sc : Scope} (h : supScB N ps sc = true) : SupSc N ps sc := by
  unfold supScB at h
  simp only [Bool.and_eq_true, Bool.or_eq_true, Bool.not_eq_true', decide_eq_true_eq, decide_eq_false_iff_not, List.all_eq_true] at h
  obtain ⟨⟨⟨⟨⟨⟨⟨h1, h2⟩, h3⟩, h4⟩, h5⟩, h6⟩, h7⟩, h8⟩ := h
  refine ⟨h1, h2, h3, h4, h5, h6, fun y hy => (h7 y hy).1, fun y e => ?_, h8⟩
  rcases (h7 (y, .free) (PySem.mem_of_lookup e)).2 with z | z
  · exact absurd rfl z
  · exact z
abbrev supEnv (qual : Str) (scope : Scope) (L f cda cc : Addr) : Env := PySem.W.ksEnv qual scope L f (.ref cda) cc
def supCx (P : Program) (w : World) (K : PySem.W.Frag) (mg : Str → Option Value) (base : Heap) (N : List Str) (qual : Str) (scope : Scope) (f cda cc : Addr) (A : Around) (outer : List Env) (s : Shared) (H : Hp) : Cx where
  prog := P
  w := w
  K := K
  mg := mg
  base := base
  A := A.deeper (supEnv qual scope s.heap.objs.size f cda cc)
  N := N
  s_0 := s
  H_0 := H
  env := supEnv qual scope s.heap.objs.size f cda cc
  outer := outer
  stack := supEnv qual scope s.heap.objs.size f cda cc :: outer
  ex := []
  fn := fun _ => false
  calm := true
  pn := []
  xe := fun _ _ => False
/-- what the written part has of the cell -/
def CellK (K : PySem.W.Frag) (cc D : Addr) : Prop := ∃ cl cld csl, K.lookup cc = some ⟨cl, cld, .cell (some (.ref D)), csl⟩
theorem lookup_nd {α β : Type} [BEq α] [LawfulBEq α] : ∀ {l : List (α × β)} {x : α} {u : β}, (l.map (·.1)).Nodup → (x, u) ∈ l → l.lookup x = some u
  | (y, v) :: l, x, u, nd, h => by
    rw [List.map_cons, List.nodup_cons] at nd
    rcases List.mem_cons.mp h with e | hm
    · cases e
      rw [List.lookup_cons, beq_self_eq_true]
    · have ne : x ≠ y := fun e => nd.1 (by rw [← e]; exact List.mem_map_of_mem (f := (·.1)) hm)
      rw [List.lookup_cons, beq_eq_false_iff_ne.mpr ne]
      exact lookup_nd nd.2 hm
theorem zip_lookup {ps : List Str} {us : List Value} {i : Nat} {x : Str} {u : Value} (hl : us.length = ps.length) (nd : ps.Nodup) (h1 : ps[i]? = some x) (h2 : us[i]? = some u) : (ps.zip us).reverse.lookup x = some u := by
  refine lookup_nd ?_ (List.mem_reverse.mpr (List.mem_of_getElem? (i := i) ?_))
  · rw [List.map_reverse, List.map_fst_zip (Nat.le_of_eq hl.symm)]
    show List.Pairwise _ _
    rw [List.pairwise_reverse]
    exact List.Pairwise.imp (fun h => Ne.symm h) nd
  · rw [List.getElem?_zip_eq_some]
    exact ⟨h1, h2⟩
theorem sup_start {P : Program} {w : World} {K : PySem.W.Frag} {mg : Str → Option Value} {base : Heap} {N ps : List Str} {qual : Str} {scope : Scope} {f cda cc D : Addr} {A : Around} {outer : List Env} {s : Shared} {H : Hp} {us : List Value} {vs : List V} {h₁ : Heap} {tk : Nat}
    (S : SupSc N ps scope) (hd : A.handled = none) (e0 : Env0 P w K mg base A outer s H) (hl : vs.length = ps.length) (r : Vals vs us) (hc : CellK K cc D) (hb : ∃ o, base.get? cc = some o)
    (hns : h₁.Ns s.heap.objs.size fun x => (ps.zip us).reverse.lookup x) (kp : ∀ b o, s.heap.get? b = some o → h₁.get? b = some o) :
    Inv (supCx P w K mg base N qual scope f cda cc A outer s H) [] (L2.start N vs) H { s with heap := h₁, toks := tk } := by
  obtain ⟨cl, cld, csl, lk⟩ := hc
  obtain ⟨oc, hoc⟩ := hb
  have K1 : K.In s.heap := e0.mod.kin.keeps fun b o e => (e0.bs b o e).1
  have none_ : ∀ {b : Addr}, b ∈ ([] : List Addr) → False := fun z => nomatch z
  have isc : h₁.IsCell cc (some (.ref D)) := ⟨_, kp _ _ (K1 _ _ lk), rfl⟩
  have one : ∀ {y : Str} {c : Addr}, ([("__class__", cc)] : List (Str × Addr)).lookup y = some c → y = "__class__" ∧ c = cc := fun {y c} e => by
    have := PySem.mem_of_lookup e
    cases List.mem_singleton.mp this
    exact ⟨rfl, rfl⟩
  refine ⟨⟨e0.mod, S.kind, rfl, rfl, Nat.le_refl _, fun y z c e1 e2 => (one e1).1.trans (one e2).1.symm, fun y hy => ?_, fun y c z _ => (nomatch (show false = true from z)), fun _ => hd, Around.frames_deeper e0.frames, .inr ⟨rfl, rfl⟩, fun b z => (none_ z).elim, e0.bs, e0.bsz, fun b _ _ z => none_ z, fun b z => (none_ z).elim, e0.funs, e0.frf⟩,
    rfl, e0.bare, Un.kept kp, ⟨_, hns, fun i y v e1 e2 e3 => ?_⟩, fun y c e => ?_, e0.hok.fresh (Nat.le_refl _), fun y c e => ?_, fun q hq => (nomatch (show q ∈ ([] : List (Addr × Obj)) ++ [] from hq)), e0.hok.kept kp, ?_⟩
  · have hy : scope.names.lookup y = some .cell ∨ scope.names.lookup y = some .free := hy
    rcases hy with hy | hy
    · exact absurd rfl (S.nocell _ (PySem.mem_of_lookup hy))
    · rw [S.free y hy]
      exact ⟨cc, rfl⟩
  · have e2 : (vs.map some ++ List.replicate (N.length - vs.length) none)[i]? = some (some v) := e2
    have hN : N.length - vs.length = 0 := by rw [S.pre, hl]; exact Nat.sub_self _
    rw [hN, List.replicate_zero, List.append_nil, List.getElem?_map] at e2
    obtain ⟨a, ha, ea⟩ := Option.map_eq_some_iff.mp e2
    cases ea
    obtain ⟨u, hu, rv⟩ := r.get ha
    have e1 : N[i]? = some y := e1
    have hp : ps[i]? = some y := by rw [← S.pre]; exact e1
    exact ⟨u, rv, .inl ⟨S.par y (List.mem_of_getElem? hp), zip_lookup (by rw [← r.length, hl]) (by rw [← S.pre]; exact S.nd) hp hu⟩⟩
  · obtain ⟨rfl, rfl⟩ := one e
    exact ⟨_, isc⟩
  · obtain ⟨rfl, rfl⟩ := one e
    exact (e0.bs _ _ hoc).2
  · show (vs.map some ++ List.replicate (N.length - vs.length) none).length = N.length
    rw [List.length_append, List.length_map, List.length_replicate, S.pre, hl, Nat.sub_self, Nat.add_zero]
end
/-! ### the row super().__init__(e) of an own error -/
section
open PySem.Spec PyProof.Rows
variable {X : Cx} {pins : List (Addr × Obj)} {σ : L2.St} {H : Hp} {s : Shared}
/-- the wrapper that super() gives, called -/
theorem call_mw {us : List Value} {Q : Value → Shared → Prop} {E : Value → Shared → Prop} {a C u : Addr} (T : OexC X.K C) (I : Inv X pins σ H s) (hu : s.heap.get? u = some (PySem.W.kxs_mw "ValueError.__init__" a)) (e : H a = some (exo a C none)) (hl : us.length ≤ sizeLine) (h : ∀ s', Inv X pins σ H s' → Q .none s') :
    wpAny (model X.prog X.w) X.A (call (.ref u) us) Q E s := by
  obtain ⟨nm, q, N, bs, bm, sn, sub, ab, col, dd, k0, k1, k2, k3, k5, hC, hbm⟩ := T.cls
  obtain ⟨t1, ho⟩ := exo_at I.hok e
  have hC' := I.kIn _ _ hC
  have fin : ∀ h', (∀ b o, b ≠ a → s.heap.get? b = some o → h'.get? b = some o) → h'.get? a = some (PySem.W.excObj C s.heap.objs.size none .none) → h'.get? s.heap.objs.size = some (PySem.W.excTup us) → Q .none { s with heap := h' } := fun h' k hx _ => by
    have J := I.write (t' := s.toks) (x := a) (e := a) (o := exo a C none) (by rw [e]; exact True.intro) (.inl rfl) k ⟨_, hx⟩ (exo_ok hx)
    have eu : L2.upd H a (exo a C none) = H := by
      funext b
      by_cases hb : b = a
      · rw [hb, upd_same, e]
      · rw [upd_ne hb]
    rw [eu] at J
    exact h _ J
  obtain ⟨hh, g, d, tk, os⟩ := s
  refine wpAny_call (codeAny_of_tree ?_)
  show wpAny _ X.A.in1 (callAny (.ref u) ⟨us, []⟩) _ _ _
  simp only [callAny]
  refine wpAny_bind (wpAny_load hu ?_)
  simp only [PySem.W.kxs_mw, show (Value.type "method-wrapper" == Value.type "method" || Value.type "method-wrapper" == Value.type "builtin_function_or_method" || Value.type "method-wrapper" == Value.type "method-wrapper") = true by decide, if_true]
  refine PySem.W.KFB.if_so (by decide) ?_
  refine wpAny_bind (PySem.W.check_bound_init F.excBase_ValueError.toExcCallFacts hC' ho rfl ?_)
  refine wpAny_bind (wpAny_pure (wpAny_pure ?_))
  refine ⟨plainId_quiet F.excBase_ValueError.init.plain _, codeAny_builtin F.excBase_ValueError.initEntry ?_⟩
  exact PySem.W.exc_init_tree (cls := .ref C) (t0 := t1) (dv := none) (c2 := .none) (c3 := .none) (b4 := .bool false) ho hl fin
/-- what the written part says of the def whose row it is -/
structure SupI (P : Program) (K : PySem.W.Frag) (mg : Str → Option Value) (sc : Scope) (f cda cc D : Addr) (fd : FuncData) : Prop where
  fn : ∃ oc od osl, K.lookup f = some ⟨oc, od, .func fd, osl⟩
  self : ∃ ar, (fd.params.posonlyargs ++ fd.params.args).head? = some ar ∧ ar.arg = ("self" : Str)
  code : ∃ ccl cdd vs ccs file tf, K.lookup cda = some ⟨ccl, cdd, .fields vs, ccs⟩ ∧ vs[2]? = some (.str file tf) ∧ ((P.main.file : Str) == file) = true
  cell : CellK K cc D
  cls : ∃ cd, PySem.W.clsIn K D = some cd
  sup : mg "super" = none
  top : (P.main.scope.names.lookup ("super" : Str)).isSome = false
  any : PySem.W.nsIn K cStatics "thirdparty.any" = some none
  names : sc.names.lookup ("super" : Str) = some .globalImplicit ∧ sc.names.lookup ("__class__" : Str) = some .free ∧ sc.names.lookup ("self" : Str) = some .local ∧ sc.kind = .function
/-- what it says of the class of the error -/
structure SupC (K : PySem.W.Frag) (C D : Addr) : Prop where
  sub : PySem.W.mroIn K C (.ref D) = some true
  ini : PySem.W.ks_superIn K C D "__init__" = some (some (.builtin "ValueError.__init__"))
  ve : PySem.W.subIn K (.ref C) (.type "ValueError") = some true
theorem sup_row {i : Nat} {a C f cda cc D : Addr} {fd : FuncData} {e : Expr} {ta : TA} {body : List Stmt} {p0 p1 p2 p3 p4 : Pos} {pl : Sem Bool} {R : Hp → Prop} (SI : SupI X.prog X.K X.mg X.env.scope f cda cc D fd) (hf : X.env.func = some f) (hco : X.env.code = .ref cda) (hcl : X.env.cells.lookup ("__class__" : Str) = some cc) (hN : X.N[i]? = some "self")
    (ha : PA X [e] ta) (hi : interactive X.env = false)
    (hev : eval (.Call (.Attribute (.Call (.Name "super" p0) [] [] p1) "__init__" p2) [e] [] p3) X.env = (do
      let ov ← attributeBase (.Call (.Name "super" p0) [] [] p1) "__init__" X.env (eval (.Call (.Name "super" p0) [] [] p1) X.env)
      standAt p2.atName
      let (f, first) ← holding [ov] (getMethod ov "__init__" pl)
      callWith p3 f first (backTo p3 (starEach [e] X.env)) []))
    (he : starEach [e] X.env = (false, eval e X.env) :: starEach [] X.env) (hpl : (backTo p3 (starEach [] X.env)).any (·.1) = false)
    (hs : swapsWith (.Call (.Attribute (.Call (.Name "super" p0) [] [] p1) "__init__" p2) [e] [] p3) none p4.line X.env = pure false)
    (I : Inv X pins σ H s) (hσ : σ[i]? = some (some (.ref a))) (hea : H a = some (exo a C none)) (T : OexC X.K C) (SC : SupC X.K C D)
    (h : ta σ H fun ws H1 => ws.length ≤ 1000 ∧ H1 a = some (exo a C none) ∧ R H1) :
    _root_.PySem.wpAt (model X.prog X.w) X.A (.func body X.env) (exec (.Expr (.Call (.Attribute (.Call (.Name "super" p0) [] [] p1) "__init__" p2) [e] [] p3) p4) X.env) (fun fl s' => fl = .next ∧ ∃ H1, Inv X pins σ H1 s' ∧ R H1) X.xe s := by
  obtain ⟨oc, od, osl, lk⟩ := SI.fn
  obtain ⟨ar, har, earg⟩ := SI.self
  obtain ⟨ccl, cdd, vs, ccs, file, tf, lkc, hvs, hfile⟩ := SI.code
  obtain ⟨cl, cld, csl, lkl⟩ := SI.cell
  obtain ⟨cdD, hD⟩ := SI.cls
  obtain ⟨n1, n2, n3, n4⟩ := SI.names
  have K1 : X.K.In s.heap := I.kIn
  obtain ⟨oD, hD1, hD2⟩ : ∃ oD, s.heap.get? D = some oD ∧ oD.data = .cls cdD := by
    unfold PySem.W.clsIn at hD
    split at hD
    · rename_i c d cd' sl ho
      cases hD
      exact ⟨_, K1 _ _ ho, rfl⟩
    · cases hD
  obtain ⟨t1, hx⟩ := exo_at I.hok hea
  obtain ⟨m, hn, hl⟩ := I.loc
  obtain ⟨u, r, l⟩ := hl i "self" (.ref a) hN hσ (.inl n3)
  obtain rfl : u = Value.ref a := r
  have hm : m "self" = some (.ref a) := by
    rcases l with ⟨_, z⟩ | ⟨k, _⟩
    · exact z
    · have k : X.env.scope.names.lookup ("self" : Str) = some .cell ∨ X.env.scope.names.lookup ("self" : Str) = some .free := k
      rw [n3] at k
      rcases k with k | k <;> cases k
  obtain ⟨mb, b1, b2⟩ := I.mod.blt
  cases hc : PySem.W.clsIn X.K C with
  | none =>
    have z := SC.ini
    unfold PySem.W.ks_superIn at z
    rw [hc] at z
    cases z
  | some cd =>
    have hini := SC.ini
    unfold PySem.W.ks_superIn at hini
    rw [hc] at hini
    obtain ⟨hh, g, d, tk, os⟩ := s
    refine PySem.ks_wpAt_Expr_any ?_ hi hs
    refine PySem.ks_wpAt_MethodCall (pl := pl) ?_ hev
    refine PySem.ks_wpAt_super_base n1 n2 (by decide) hf (K1 _ _ lk) rfl har hco (K1 _ _ lkc) rfl hvs hfile SI.top ?_
    refine PySem.W.ks_loadName_global I.ok.kind n1 (PySem.Calls.loadGlobal_builtin (by rw [I.ok.glob]; exact I.mod.glob.keeps I.bk) SI.sup (by rw [I.ok.blt]; exact b1.keeps I.bk) ((b2 "super" (by decide)).trans (show bootBuiltins "super" = some (.type "super") from by decide +kernel)) ⟨rfl, ?_⟩)
    refine wpAny_loadName_free I.ok.kind n2 hcl ⟨_, K1 _ _ lkl, rfl⟩ ?_
    rw [earg]
    refine wpAny_loadName_local I.ok.kind n3 hn hm ?_
    refine PySem.ks_wpAny_isType_cls hD1 hD2 ⟨rfl, ?_⟩
    refine PySem.ks_wpAny_call_super hD1 hD2 hx rfl (fun c z => by cases z) (PySem.W.looks_mroIn K1 SC.sub) (fun h' e' k => ?_)
    have I1 : Inv X pins σ H ⟨h', g, d, tk, os⟩ := I.kept k
    have K2 : X.K.In h' := I1.kIn
    have hx1 := k _ _ hx
    have ins : PySem.W.InstAt h' a _ C none := ⟨hx1, rfl, rfl, trivial⟩
    refine PySem.W.kxs_getMethod PySem.W.kxs_ValueError (l₀ := cd.mro) e' (PySem.W.looks_opaque K2 SI.any) (fun A Q E s k q => wpAny_bind ((PySem.W.looks_clsIn K2 hc) A _ E s k (wpAny_pure q))) rfl K2 hini (ins.type.andThen (PySem.W.looks_subIn K2 SC.ve)) (PySem.W.ks_ne K2 ins hc) (by decide) ?_
    have nu : H h'.objs.size = none := I1.hok.fresh (Nat.le_refl _)
    have fo : FpOk X pins H h'.objs.size := I1.fpOk (Nat.le_refl _) nu
    have kp : ∀ b o, h'.get? b = some o → (h'.push (PySem.W.kxs_mw "ValueError.__init__" a)).get? b = some o := fun b o z => Heap.get?_push_of_some _ z
    have hmw : (h'.push (PySem.W.kxs_mw "ValueError.__init__" a)).get? h'.objs.size = some (PySem.W.kxs_mw "ValueError.__init__" a) := Heap.get?_push_size _ rfl
    have I2 : Inv X pins σ H ⟨h'.push (PySem.W.kxs_mw "ValueError.__init__" a), g, d, tk + 1, os⟩ := I1.kept kp
    have I3 : Inv X (pins ++ [(h'.objs.size, PySem.W.kxs_mw "ValueError.__init__" a)]) σ H ⟨h'.push (PySem.W.kxs_mw "ValueError.__init__" a), g, d, tk + 1, os⟩ := I2.pins_of fun p hp => (List.mem_append.mp hp).elim (fun z => I2.pin p (List.mem_append_right _ z)) fun z => by
      rw [List.mem_singleton.mp z]
      exact ⟨hmw, fo.1, fo.2.1, fo.2.2.1, fun v y => by cases y⟩
    show wpAny _ _ (callWith p3 (.ref h'.objs.size) [] (backTo p3 (starEach [e] X.env)) []) _ _ _
    refine PySem.W.kxs_callWith (i := "ValueError.__init__") (x := a) (by rw [he]; show (false || (backTo p3 (starEach [] X.env)).any (·.1)) = false; rw [hpl]; rfl) ?_
    have run := ha.run p3 _ _ σ H _ I3 h
    rw [he] at run ⊢
    refine PySem.Calls.evalArgs_plain (thn run fun us s3 hq => ?_)
    obtain ⟨ws, H1, I4, r1, hz, ea, q⟩ := hq
    have hu := (I4.pin (h'.objs.size, PySem.W.kxs_mw "ValueError.__init__" a) (by simp)).1
    refine ⟨hu, ?_⟩
    have hlen : us.length ≤ sizeLine := by
      rw [← Paired.length r1, sizeLine_eq]
      omega
    exact call_mw T I4.unpinned hu ea hlen fun s' J => ⟨rfl, H1, J, q⟩
end
/-! ### the promise of such a def -/
section
open PySem.Spec PyProof.Rows
variable {P : Program} {w : World} {K : PySem.W.Frag} {mg : Str → Option Value} {base : Heap}
theorem fn_sup {k : Nat} {f cda cc D : Addr} {qual : Str} {params : Arguments} {scope : Scope} {kV doc pm ct oc : Value} {an od : Option Addr} {osl : Array (Option Value)} {N ps : List Str} {sp : Sp} {e : Expr} {rest : List Stmt} {p0 p1 p2 p3 p4 : Pos} {pl : Sem Bool}
    (lk : K.lookup f = some ⟨oc, od, .func (PySem.W.ksFn "__init__" qual params (.Expr (.Call (.Attribute (.Call (.Name "super" p0) [] [] p1) "__init__" p2) [e] [] p3) p4 :: rest) scope .none kV doc pm an (.ref cda) ct cc), osl⟩) (hcd : PySem.W.codeIn K (.ref cda) qual = true) (S : SupSc N ps scope) (h0 : N[0]? = some ("self" : Str))
    (SI : SupI P K mg scope f cda cc D (PySem.W.ksFn "__init__" qual params (.Expr (.Call (.Attribute (.Call (.Name "super" p0) [] [] p1) "__init__" p2) [e] [] p3) p4 :: rest) scope .none kV doc pm an (.ref cda) ct cc))
    (len : ∀ vs H Q E, sp vs H Q E → vs.length = ps.length)
    (hev : ∀ L : Addr, eval (.Call (.Attribute (.Call (.Name "super" p0) [] [] p1) "__init__" p2) [e] [] p3) (supEnv qual scope L f cda cc) = (do
      let ov ← attributeBase (.Call (.Name "super" p0) [] [] p1) "__init__" (supEnv qual scope L f cda cc) (eval (.Call (.Name "super" p0) [] [] p1) (supEnv qual scope L f cda cc))
      standAt p2.atName
      let (fv, first) ← holding [ov] (getMethod ov "__init__" pl)
      callWith p3 fv first (backTo p3 (starEach [e] (supEnv qual scope L f cda cc))) []))
    (he : ∀ L : Addr, starEach [e] (supEnv qual scope L f cda cc) = (false, eval e (supEnv qual scope L f cda cc)) :: starEach [] (supEnv qual scope L f cda cc)) (hpl : ∀ L : Addr, (backTo p3 (starEach [] (supEnv qual scope L f cda cc))).any (·.1) = false)
    (hi : ∀ L : Addr, interactive (supEnv qual scope L f cda cc) = false) (hs : ∀ L : Addr, swapsWith (.Call (.Attribute (.Call (.Name "super" p0) [] [] p1) "__init__" p2) [e] [] p3) none p4.line (supEnv qual scope L f cda cc) = pure false)
    (hbody : ∀ (A : Around) (outer : List Env) (s : Shared) (H : Hp) (vs : List V) (Q : VK) (E : XK), Room k (A.deeper (supEnv qual scope s.heap.objs.size f cda cc)) → sp vs H Q E →
      ∃ (a C : Addr) (ta : TA) (t : TS), vs[0]? = some (.ref a) ∧ H a = some (exo a C none) ∧ OexC K C ∧ SupC K C D ∧ PA (supCx P w K mg base N qual scope f cda cc A outer s H) [e] ta ∧ PSs (supCx P w K mg base N qual scope f cda cc A outer s H) rest t ∧
        ta (L2.start N vs) H fun ws H1 => ws.length ≤ 1000 ∧ H1 a = some (exo a C none) ∧ t { nx := fun _ H' => Q .non H', rt := Q } (L2.start N vs) H1) :
    FnOk P w K mg base CX0 (k + 1) f (PySem.W.ksFn "__init__" qual params (.Expr (.Call (.Attribute (.Call (.Name "super" p0) [] [] p1) "__init__" p2) [e] [] p3) p4 :: rest) scope .none kV doc pm an (.ref cda) ct cc) ps sp := by
  refine ⟨len, fun A outer s H args us vs Q E hr e0 hb r hsp => ?_⟩
  have hl := len _ _ _ _ hsp
  have KX : K.In s.heap := e0.mod.kin.keeps fun b o e => (e0.bs b o e).1
  have lim : s.heap.NoLimit := e0.mod.nolimit.keeps fun b o e => (e0.bs b o e).1
  obtain ⟨cl, cld, csl, lkl⟩ := id SI.cell
  have hcc : ∃ o, base.get? cc = some o := ⟨_, e0.mod.kin _ _ lkl⟩
  refine PySem.ks_codeAny_call_defAt hr.depth (KX _ _ lk) rfl lim (PySem.W.codeRec_of KX hcd) rfl hb (fun y hy => S.nocell y hy) (fun y hy => S.par y.1 (List.of_mem_zip (a := y.1) (b := y.2) hy).1) (fun h₁ hns kp => ?_) S.co S.gen S.kind
  obtain ⟨a, C, ta, t, ea, hea, T, SC, hPA, hPS, q⟩ := hbody A outer s H vs Q E (hr.deeper _) hsp
  have I := sup_start (cda := cda) (f := f) (qual := qual) (tk := s.toks + (ps.zip us).length) S hr.hd e0 hl r SI.cell hcc hns kp
  have hσ : (L2.start N vs)[0]? = some (some (.ref a)) := by
    unfold L2.start
    have h1 : 0 < (vs.map some).length := by
      rw [List.length_map]
      exact (List.getElem?_eq_some_iff.mp ea).1
    rw [List.getElem?_append_left h1, List.getElem?_map, ea]
    rfl
  refine PySem.ks_wpAt_execs_cons (PySem.ks_wpAt_mono (sup_row (X := supCx P w K mg base N qual scope f cda cc A outer s H) (R := fun H1 => t { nx := fun _ H' => Q .non H', rt := Q } (L2.start N vs) H1) (i := 0) (e := e) (p0 := p0) (p1 := p1) (p2 := p2) (p3 := p3) (p4 := p4) (pl := pl) SI rfl rfl rfl h0 hPA (hi _) (hev _) (he _) (hpl _) (hs _) I hσ hea T SC q) (fun fl s' hq => ?_) fun _ _ z => z.elim)
  · obtain ⟨rfl, H1, J, ht⟩ := hq
    refine PySem.wpAt_of_wpAny (wpAny_mono (hPS.run [] s' (L2.start N vs) H1 _ J ht) (fun fl2 s2 hs2 => ?_) fun _ _ z => z.elim)
    have fin : ∀ {σ' : L2.St} {H' : Hp} {v : V} {u : Value}, Inv (supCx P w K mg base N qual scope f cda cc A outer s H) [] σ' H' s2 → L2.RelV v u → Q v H' → CE outer P w H s Q u s2 :=
      fun {σ' H' v u} J rv q => ⟨v, H', J.os, J.bare, J.base, J.hok, rv, q⟩
    cases fl2 with
    | ret u =>
      obtain ⟨v, σ', H', J, rv, q⟩ := hs2
      exact fin J rv q
    | next =>
      obtain ⟨σ', H', J, q⟩ := hs2
      exact fin (v := V.non) (u := Value.none) J rfl q
    | brk =>
      obtain ⟨_, _, _, q⟩ := hs2
      exact False.elim q
    | cont =>
      obtain ⟨_, _, _, q⟩ := hs2
      exact False.elim q
end
/-! ### the class of an own error with an own __init__, by what the written part says -/
section
open PySem.Spec PyProof.Rows
def oexB (K : PySem.W.Frag) (C : Addr) : Bool := match K.lookup C with
  | some ⟨.type "type", _, .cls cd, sl⟩ => (match cd.mro, sl.toList with
    | .ref C' :: bm, [_, _, _, _, some (.builtin n), _] => C' == C && n == "ValueError.__new__" && !cd.hasDel && cd.hasDict && PySem.HandSPX.refsVE bm
    | _, _ => false)
  | _ => false
variable {K : PySem.W.Frag} {C : Addr}
theorem oex_cls (q : oexB K C = true) : ∃ cd, PySem.W.clsIn K C = some cd := by
  unfold oexB at q
  unfold PySem.W.clsIn
  split at q
  · rename_i dd cd sl ho
    exact ⟨cd, by rw [ho]⟩
  · cases q
theorem oex_mk (q : oexB K C = true) (sa : PySem.W.findIn K (.ref C) "__setattr__" = some (some (.builtin "object.__setattr__"))) (exC : PySem.W.subIn K (.ref C) (.type "BaseException") = some true) (tyC : PySem.W.typeIn K (.ref C) = some (.type "type")) (kC : PySem.W.keepIn K (.ref C) = true) : OexC K C := by
  refine ⟨?_, sa, exC, tyC, kC⟩
  unfold oexB at q
  split at q
  · rename_i dd cd sl ho
    split at q
    · rename_i C' bm k0 k1 k2 k3 n k5 hm hs
      simp only [Bool.and_eq_true, beq_iff_eq, Bool.not_eq_true'] at q
      obtain ⟨⟨⟨⟨rfl, rfl⟩, hdel⟩, hdi⟩, ht⟩ := q
      obtain ⟨nm, bs, mro, ns, qn, hd, sn, sub, ab, col, del⟩ := cd
      dsimp only at hm hdel hdi
      subst hm hdel hdi
      have hsl : sl = #[k0, k1, k2, k3, some (.builtin "ValueError.__new__"), k5] := by
        obtain ⟨l⟩ := sl
        simp only at hs
        rw [hs]
      subst hsl
      exact ⟨nm, qn, ns, bs, bm, sn, sub, ab, col, dd, k0, k1, k2, k3, k5, ho, ht⟩
    · cases q
  · cases q
end
abbrev s_InvalidNet_init : Stmt := inClass (top 3) 0
abbrev N_InvalidNet_init : List Str := ["self", "part", "index"]
abbrev P_InvalidNet_init : List Str := ["self", "part", "index"]
theorem sc_InvalidNet_init : SupSc N_InvalidNet_init P_InvalidNet_init (defScope s_InvalidNet_init) := supSc_by (by decide +kernel)
/-! ### the error of a net: what its __init__ makes -/
section
open PySem.Spec PyProof.Rows
structure FunS (K : PySem.W.Frag) (qual : Str) (st : Stmt) (f cda cc : Addr) (fd : FuncData) : Prop where
  ex : ∃ oc od osl kV doc pm an ct, fd = PySem.W.ksFn "__init__" qual (defArgs st) (defBody st) (defScope st) .none kV doc pm an (.ref cda) ct cc ∧ K.lookup f = some ⟨oc, od, .func fd, osl⟩ ∧ PySem.W.codeIn K (.ref cda) qual = true
variable {P : Program} {w : World} {K : PySem.W.Frag} {mg : Str → Option Value} {base : Heap}
def spNetErr (K : PySem.W.Frag) (D : Addr) : Sp := fun vs H Q _ => ∃ (a C : Addr) (part : Str) (i : Nat), vs = [.ref a, .str part, .int i] ∧ H a = some (exo a C none) ∧ OexC K C ∧ SupC K C D ∧ part.length ≤ 100 ∧ i ≤ 30 ∧ PySem.W.findIn K (.ref C) "part" = some none ∧ PySem.W.findIn K (.ref C) "index" = some none ∧
  ∀ dx, H dx = none → dx ≠ a → Q .non (L2.upd (L2.upd (L2.upd H dx (exd dx [("part", .str part)])) a (exo a C (some dx))) dx (exd dx [("index", .int i), ("part", .str part)]))
theorem ok_neterr {f cda cc D : Addr} {fd : FuncData} (F : FunS K "InvalidNet.__init__" s_InvalidNet_init f cda cc fd) (SI : SupI P K mg (defScope s_InvalidNet_init) f cda cc D fd) : FnOk P w K mg base CX0 2 f fd P_InvalidNet_init (spNetErr K D) := by
  obtain ⟨oc, od, osl, kV, doc, pm, an, ct, rfl, lk, hcd⟩ := F.ex
  refine fn_sup (N := N_InvalidNet_init) (ps := P_InvalidNet_init) lk hcd sc_InvalidNet_init rfl SI (fun vs H Q E h => ?_) (fun L => by rfl) (fun L => by rfl) (fun L => by rfl) (fun L => by rfl) (fun L => by rfl) (fun A outer s H vs Q E hr h => ?_)
  · obtain ⟨a, C, part, i, rfl, _⟩ := h
    rfl
  · obtain ⟨a, C, part, i, rfl, ha, T, SC, pl, il, f1, f2, q⟩ := h
    refine ⟨a, C, _, _, rfl, ha, T, SC, pa_cons (pe_joined (.cons pe_str (.cons (pe_fmt (pv 1)) (.cons pe_str (.cons (pe_fmt (pv 2)) .nil))))) pa_nil, pss_cons (ps_ost (pv 0) (pv 1)) (pss_one (ps_ost (pv 0) (pv 2))), ?_⟩
    have hi := (nT_ok il).2.2.1
    have z0 : (Str.empty ++ ("invalid " : Str)).length = 8 := by decide +kernel
    have z1 : (" of a net, index " : Str).length = 17 := by decide +kernel
    refine ⟨_, rfl, by rw [z0, sizeLine_eq]; omega, ?_⟩
    refine ⟨_, rfl, .inl ⟨part, rfl, by rw [sizeLine_eq]; omega, part, rfl, by rw [len_app, z0, sizeLine_eq]; omega, ?_⟩⟩
    refine ⟨_, rfl, by rw [len_app, len_app, z0, z1, sizeLine_eq]; omega, ?_⟩
    refine ⟨_, rfl, .inr ⟨_, rfl, log_small il, nT i, rfl, by rw [len_app, len_app, len_app, z0, z1, sizeLine_eq]; omega, ?_⟩⟩
    refine ⟨by show 1 ≤ 1000; decide, ha, ?_⟩
    refine ⟨_, rfl, _, rfl, a, C, rfl, T, f1, .inl ⟨ha, fun dx nd ne => ?_⟩⟩
    refine ⟨_, rfl, _, rfl, a, C, rfl, T, f2, .inr ⟨dx, _, upd_same, (upd_ne ne).trans upd_same, by show 1 ≤ 900; decide, q dx nd ne⟩⟩
end
abbrev s_TextFault_init : Stmt := inClass (top 13) 0
abbrev N_TextFault_init : List Str := ["self", "line"]
abbrev P_TextFault_init : List Str := ["self", "line"]
theorem sc_TextFault_init : SupSc N_TextFault_init P_TextFault_init (defScope s_TextFault_init) := supSc_by (by decide +kernel)
abbrev s_InvalidCode_init : Stmt := inClass (top 14) 0
abbrev N_InvalidCode_init : List Str := ["self", "place"]
abbrev P_InvalidCode_init : List Str := ["self", "place"]
theorem sc_InvalidCode_init : SupSc N_InvalidCode_init P_InvalidCode_init (defScope s_InvalidCode_init) := supSc_by (by decide +kernel)
/-! ### the errors with one number: what their __init__ makes -/
section
open PySem.Spec PyProof.Rows
theorem num_len : ∀ n, n < 1000 → (nT n).length ≤ 4 := by
  have h : ((List.range 1000).all fun n => decide ((nT n).length ≤ 4)) = true := by decide +kernel
  intro n hn
  rw [List.all_eq_true] at h
  exact of_decide_eq_true (h n (List.mem_range.mpr hn))
theorem log_1000 {n : Nat} (h : n < 1000) : ((n : Int)).natAbs.log2 < 1920 := by
  have : ((n : Int)).natAbs = n := Int.natAbs_natCast n
  rw [this]
  by_cases c : n = 0
  · subst c; decide
  · have h1 : n.log2 < 10 := (Nat.log2_lt c).mpr (Nat.lt_of_lt_of_le h (by decide))
    omega
variable {P : Program} {w : World} {K : PySem.W.Frag} {mg : Str → Option Value} {base : Heap}
def spOneErr (K : PySem.W.Frag) (D : Addr) (fld : Str) : Sp := fun vs H Q _ => ∃ (a C : Addr) (i : Nat), vs = [.ref a, .int i] ∧ H a = some (exo a C none) ∧ OexC K C ∧ SupC K C D ∧ i < 1000 ∧ PySem.W.findIn K (.ref C) fld = some none ∧
  ∀ dx, H dx = none → dx ≠ a → Q .non (L2.upd (L2.upd H dx (exd dx [(fld, .int i)])) a (exo a C (some dx)))
theorem ok_linerr {f cda cc D : Addr} {fd : FuncData} (F : FunS K "TextFault.__init__" s_TextFault_init f cda cc fd) (SI : SupI P K mg (defScope s_TextFault_init) f cda cc D fd) : FnOk P w K mg base CX0 2 f fd P_TextFault_init (spOneErr K D "line") := by
  obtain ⟨oc, od, osl, kV, doc, pm, an, ct, rfl, lk, hcd⟩ := F.ex
  refine fn_sup (N := N_TextFault_init) (ps := P_TextFault_init) lk hcd sc_TextFault_init rfl SI (fun vs H Q E h => ?_) (fun L => by rfl) (fun L => by rfl) (fun L => by rfl) (fun L => by rfl) (fun L => by rfl) (fun A outer s H vs Q E hr h => ?_)
  · obtain ⟨a, C, i, rfl, _⟩ := h
    rfl
  · obtain ⟨a, C, i, rfl, ha, T, SC, il, f1, q⟩ := h
    refine ⟨a, C, _, _, rfl, ha, T, SC, pa_cons (pe_joined (.cons pe_str (.cons (pe_fmt (pv 1)) .nil))) pa_nil, pss_one (ps_ost (pv 0) (pv 1)), ?_⟩
    have hi := num_len i il
    have z0 : (Str.empty ++ ("invalid text at line " : Str)).length = 21 := by decide +kernel
    refine ⟨_, rfl, by rw [z0, sizeLine_eq]; omega, ?_⟩
    refine ⟨_, rfl, .inr ⟨_, rfl, log_1000 il, nT i, rfl, by rw [len_app, z0, sizeLine_eq]; omega, ?_⟩⟩
    exact ⟨by show 1 ≤ 1000; decide, ha, _, rfl, _, rfl, a, C, rfl, T, f1, .inl ⟨ha, fun dx nd ne => q dx nd ne⟩⟩
theorem ok_codeerr {f cda cc D : Addr} {fd : FuncData} (F : FunS K "InvalidCode.__init__" s_InvalidCode_init f cda cc fd) (SI : SupI P K mg (defScope s_InvalidCode_init) f cda cc D fd) : FnOk P w K mg base CX0 2 f fd P_InvalidCode_init (spOneErr K D "place") := by
  obtain ⟨oc, od, osl, kV, doc, pm, an, ct, rfl, lk, hcd⟩ := F.ex
  refine fn_sup (N := N_InvalidCode_init) (ps := P_InvalidCode_init) lk hcd sc_InvalidCode_init rfl SI (fun vs H Q E h => ?_) (fun L => by rfl) (fun L => by rfl) (fun L => by rfl) (fun L => by rfl) (fun L => by rfl) (fun A outer s H vs Q E hr h => ?_)
  · obtain ⟨a, C, i, rfl, _⟩ := h
    rfl
  · obtain ⟨a, C, i, rfl, ha, T, SC, il, f1, q⟩ := h
    refine ⟨a, C, _, _, rfl, ha, T, SC, pa_cons (pe_joined (.cons pe_str (.cons (pe_fmt (pv 1)) .nil))) pa_nil, pss_one (ps_ost (pv 0) (pv 1)), ?_⟩
    have hi := num_len i il
    have z0 : (Str.empty ++ ("invalid code at place " : Str)).length = 22 := by decide +kernel
    refine ⟨_, rfl, by rw [z0, sizeLine_eq]; omega, ?_⟩
    refine ⟨_, rfl, .inr ⟨_, rfl, log_1000 il, nT i, rfl, by rw [len_app, z0, sizeLine_eq]; omega, ?_⟩⟩
    exact ⟨by show 1 ≤ 1000; decide, ha, _, rfl, _, rfl, a, C, rfl, T, f1, .inl ⟨ha, fun dx nd ne => q dx nd ne⟩⟩
end
/-! ### raising the errors of the package -/
/-- the class x at D: what its raising asks -/
structure ErrR (K : PySem.W.Frag) (mg : Str → Option Value) (x : Str) (D : Addr) : Prop where
  g : mg x = some (.ref D)
  x : PySem.W.excIn K D [.type "ValueError", .type "Exception", .type "BaseException", .type "object"] "ValueError.__new__" = true
  k : PySem.W.keepIn K (.ref D) = true
  b : PySem.W.subIn K (.ref D) (.type "BaseException") = some true
  t : PySem.W.typeIn K (.ref D) = some (.type "type")
theorem pmk_err {X : Cx} {x m : Str} {j : Nat} {p p2 pos : Pos} {D : Addr} (E : ErrR X.K X.mg x D) (hg : Gl X x) (hdb : (x == ("__debug__" : Str)) = false := by decide) : PMk X (.Call (.Name x p) [.Constant (.str m) j p2] [] pos) (fun _ H Q => Q (.ref D) none H) :=
  pmk_own PySem.F.excBase_ValueError E.x E.g E.k (raises_own E.b E.t) hg hdb
abbrev takesX {X : Cx} := @takes_of X
section
variable {P : Program} {w : World} {K : PySem.W.Frag} {mg : Str → Option Value} {base : Heap}
/-- a def with one parameter and a star parameter, that may raise -/
theorem fun_star1X {x qual p1 pv : Str} {st : Stmt} {f : Addr} {fd : FuncData} {N : List Str} {k : Nat} {sp : Sp} (F : Fun K x qual st f fd) (S : FnScope N ([p1] ++ [pv]) (defScope st))
    (h0 : ∀ (kV doc pm : Value) (an : Option Addr) (cdv ct a : Value), bindArgs (PySem.W.fnOf x qual (defArgs st) (defBody st) (defScope st) .none kV doc pm an cdv ct) ⟨[a], []⟩ = (newTuple [] >>= fun t => pure [(p1, a), (pv, t)]))
    (h1 : ∀ (kV doc pm : Value) (an : Option Addr) (cdv ct a r : Value) (rs : List Value), bindArgs (PySem.W.fnOf x qual (defArgs st) (defBody st) (defScope st) .none kV doc pm an cdv ct) ⟨a :: r :: rs, []⟩ = (newTuple (r :: rs) >>= fun t => pure [(p1, a), (pv, t)]))
    (hbody : ∀ (cdv : Value) (A : Around) (outer : List Env) (s : Shared) (H : Hp) (vs : List V) (Q : VK) (E : XK), Room k (A.deeper (PyProof.Rows.envOfC qual (defScope st) s.heap.objs.size f cdv)) → sp vs H Q E →
      ∃ t, PSs (cxOf (L2.CX P w) P w K mg base N qual (defScope st) f cdv A outer s H E) (defBody st) t ∧ t { nx := fun _ H' => Q .non H', rt := Q } (L2.start N vs) H) :
    FnR P w K mg base (L2.CX P w) (k + 1) f (fun vs H Q E => ∃ a rest, vs = a :: rest ∧ rest.length ≤ sizeLine ∧ ∀ p, H p = none → sp [a, .ref p] (upd H p (.tup rest)) Q E) := by
  obtain ⟨oc, od, kV, doc, pm, an, cdv, ct, osl, rfl, lk, hcd⟩ := F.ex
  have g := StX.fn_star (CX := L2.CX P w) (P := P) (w := w) (K := K) (mg := mg) (base := base) (k := k) (ps := [p1]) (pv := pv) (sp := sp) lk hcd S StX.cxUp
    (StX.bind_star1 (B := fun us => bindArgs (PySem.W.fnOf x qual (defArgs st) (defBody st) (defScope st) .none kV doc pm an cdv ct) ⟨us, []⟩) (h0 kV doc pm an cdv ct) (h1 kV doc pm an cdv ct))
    fun A outer s H vs Q E hr hsp => hbody cdv A outer s H vs Q E hr hsp
  exact g.imp fun vs H Q E ⟨a, rest, e, hz, h⟩ => ⟨[a], rest, e, rfl, hz, h⟩
end
/-! ### a promise without errors among those with; one of two promises -/
section
variable {P : Program} {w : World} {K : PySem.W.Frag} {mg : Str → Option Value} {base : Heap}
theorem FnOk.up {k : Nat} {f : Addr} {fd : FuncData} {ps : List Str} {sp : Sp} (F : FnOk P w K mg base CX0 k f fd ps sp) : FnOk P w K mg base (L2.CX P w) k f fd ps sp :=
  ⟨F.len, fun A outer s H args us vs Q E hr he hb hv hs => PySem.codeAny_mono (F.run A outer s H args us vs Q E hr he hb hv hs) fun r s' h => by
    cases r with
    | ok z => cases z <;> exact h
    | error e => exact False.elim h⟩
theorem FnOk.or {CX : CXT} {k : Nat} {f : Addr} {fd : FuncData} {ps : List Str} {sp sp' : Sp} (F : FnOk P w K mg base CX k f fd ps sp) (G : FnOk P w K mg base CX k f fd ps sp') : FnOk P w K mg base CX k f fd ps (fun vs H Q E => sp vs H Q E ∨ sp' vs H Q E) :=
  ⟨fun vs H Q E h => h.elim (F.len vs H Q E) (G.len vs H Q E), fun A outer s H args us vs Q E hr he hb hv hs => hs.elim (F.run A outer s H args us vs Q E hr he hb hv) (G.run A outer s H args us vs Q E hr he hb hv)⟩
end
/-! ### raise InvalidNet(part, index) -/
section
open PySem.Spec PyProof.Rows
structure NetErr (P : Program) (w : World) (K : PySem.W.Frag) (mg : Str → Option Value) (base : Heap) (C : Addr) : Prop where
  g : mg "InvalidNet" = some (.ref C)
  T : OexC K C
  SC : SupC K C C
  f1 : PySem.W.findIn K (.ref C) "part" = some none
  f2 : PySem.W.findIn K (.ref C) "index" = some none
  ini : ∃ (f : Addr) (fd : FuncData), PySem.W.findIn K (.ref C) "__init__" = some (some (.ref f)) ∧ PySem.W.typeIn K (.ref f) = some (.type "function") ∧ FnOk P w K mg base CX0 2 f fd P_InvalidNet_init (spNetErr K C) ∧ Binds K fd P_InvalidNet_init []
theorem same_ext {H H2 : Hp} {d : Addr} (nd : H d = none) (oth : ∀ b, b ≠ d → H2 b = H b) : Same H H2 := fun b o e => by rw [oth b (ne_of_none e nd)]; exact e
/-- the fields that such an error has -/
def netFs (part : Str) (i : Nat) : List (Str × V) := [("index", .int i), ("part", .str part)]
theorem pa_weak {X : Cx} {es : List Expr} {ta : TA} (h : PA X es ta) : PA X es (fun σ H k => ∃ k1 : List V → Hp → Prop, ta σ H k1 ∧ ∀ vs H1, k1 vs H1 → k vs H1) := ⟨fun pos pins s σ H Q I ⟨k1, h1, h2⟩ => thn (h.run pos pins s σ H k1 I h1) fun us s1 ⟨vs, H1, I1, r, q⟩ => ⟨vs, H1, I1, r, h2 _ _ q⟩⟩
theorem pmk_neterr {X : Cx} {C : Addr} {e : Expr} {es : List Expr} {ta : TA} {p pos : Pos} (NE : NetErr X.prog X.w X.K X.mg X.base C) (hr : Room 3 X.A) (hg : Gl X "InvalidNet") (ha : PA X (e :: es) ta)
    (he : starEach (e :: es) X.env = (false, eval e X.env) :: starEach es X.env := by rfl) (hpl : (backTo pos (starEach es X.env)).any (·.1) = false := by rfl) :
    PMk X (.Call (.Name "InvalidNet" p) (e :: es) [] pos) (fun σ H Q => ta σ H fun vs H1 => ∃ (part : Str) (i : Nat), vs = [.str part, .int i] ∧ part.length ≤ 100 ∧ i ≤ 30 ∧ ∀ d H2, H1 d = none → H2 d = some (.xd (netFs part i)) → (∀ b, b ≠ d → H2 b = H1 b) → Q (.ref C) (some d) H2) := by
  obtain ⟨f, fd, iC, tI, F1, bI⟩ := NE.ini
  intro pins s σ H Q I h
  refine pmk_oex (X := X) (e := e) (es := es) (p := p) (pos := pos) (ds := []) (dvs := []) NE.T iC tI F1 hr bI .nil (fun _ _ _ _ _ _ _ z => z.elim) hg NE.g (pa_weak ha) (by decide) he hpl pins s σ H Q I ⟨_, h, fun vs H1 h1 => ?_⟩
  obtain ⟨part, i, rfl, pl, il, q⟩ := h1
  refine ⟨by show 2 ≤ 1000; decide, fun a na => ⟨a, C, part, i, rfl, upd_same, NE.T, NE.SC, pl, il, NE.f1, NE.f2, fun dx nd ne => ⟨rfl, dx, netFs part i, (upd_ne ne.symm).trans upd_same, upd_same, ?_, ?_⟩⟩⟩
  · rw [upd_ne ne] at nd
    exact nd
  · rw [upd_ne ne] at nd
    refine q dx _ nd upd_same fun b hb => ?_
    rw [upd_ne hb]
    by_cases e : b = a
    · rw [e, del_same, na]
    · rw [del_ne e, upd_ne hb, upd_ne e, upd_ne hb, upd_ne e]
end
/-! ### raise of an error with one number -/
section
open PySem.Spec PyProof.Rows
structure OneErr (P : Program) (w : World) (K : PySem.W.Frag) (mg : Str → Option Value) (base : Heap) (cn fld : Str) (ps : List Str) (C : Addr) : Prop where
  g : mg cn = some (.ref C)
  T : OexC K C
  SC : SupC K C C
  f1 : PySem.W.findIn K (.ref C) fld = some none
  ini : ∃ (f : Addr) (fd : FuncData), PySem.W.findIn K (.ref C) "__init__" = some (some (.ref f)) ∧ PySem.W.typeIn K (.ref f) = some (.type "function") ∧ FnOk P w K mg base CX0 2 f fd ps (spOneErr K C fld) ∧ Binds K fd ps []
/-- the fields that such an error has -/
def oneFs (fld : Str) (i : Nat) : List (Str × V) := [(fld, .int i)]
theorem pmk_oneerr {X : Cx} {cn fld : Str} {ps : List Str} {C : Addr} {e : Expr} {es : List Expr} {ta : TA} {p pos : Pos} (NE : OneErr X.prog X.w X.K X.mg X.base cn fld ps C) (hr : Room 3 X.A) (hg : Gl X cn) (ha : PA X (e :: es) ta)
    (hdb : (cn == ("__debug__" : Str)) = false := by decide) (he : starEach (e :: es) X.env = (false, eval e X.env) :: starEach es X.env := by rfl) (hpl : (backTo pos (starEach es X.env)).any (·.1) = false := by rfl) :
    PMk X (.Call (.Name cn p) (e :: es) [] pos) (fun σ H Q => ta σ H fun vs H1 => ∃ (i : Nat), vs = [.int i] ∧ i < 1000 ∧ ∀ d H2, H1 d = none → H2 d = some (.xd (oneFs fld i)) → (∀ b, b ≠ d → H2 b = H1 b) → Q (.ref C) (some d) H2) := by
  obtain ⟨f, fd, iC, tI, F1, bI⟩ := NE.ini
  intro pins s σ H Q I h
  refine pmk_oex (X := X) (e := e) (es := es) (p := p) (pos := pos) (ds := []) (dvs := []) NE.T iC tI F1 hr bI .nil (fun _ _ _ _ _ _ _ z => z.elim) hg NE.g (pa_weak ha) hdb he hpl pins s σ H Q I ⟨_, h, fun vs H1 h1 => ?_⟩
  obtain ⟨i, rfl, il, q⟩ := h1
  refine ⟨by show 1 ≤ 1000; decide, fun a na => ⟨a, C, i, rfl, upd_same, NE.T, NE.SC, il, NE.f1, fun dx nd ne => ⟨rfl, dx, oneFs fld i, upd_same, (upd_ne ne).trans upd_same, ?_, ?_⟩⟩⟩
  · rw [upd_ne ne] at nd
    exact nd
  · rw [upd_ne ne] at nd
    refine q dx _ nd upd_same fun b hb => ?_
    rw [upd_ne hb]
    by_cases e : b = a
    · rw [e, del_same, na]
    · rw [del_ne e, upd_ne e, upd_ne hb, upd_ne e]
end
/-! ### orders that a net refuses -/
def BadOrds (K : PySem.W.Frag) (H : Hp) (p h : Nat) (v : V) (i : Nat) : Prop := (i = 0 ∧ ∃ t, TyX K H v (.type t) ∧ kitB t "tuple" = some false) ∨
  ∃ (t : Addr) (ts : List V) (os : List Od), v = .ref t ∧ H t = some (.tup ts) ∧ i < ts.length ∧ i ≤ 20 ∧ os.length = i ∧ Paired (OrdAt H) (ts.take i) os ∧ (∀ o ∈ os, OdOk p h o) ∧ (i = 20 ∨ ∃ x, ts[i]? = some x ∧ ∀ H', Same H H' → OrderLike K H' x p h false)
def spChkOrdersX (K : PySem.W.Frag) (C : Addr) : Sp := fun vs H _ E => ∃ (p h : Nat) (v : V) (i : Nat), vs = [.int p, .int h, v] ∧ BadOrds K H p h v i ∧ ∀ d H', Same H H' → H' d = some (.xd (netFs "orders" i)) → E (.ref C) (some d) H'
section
variable {P : Program} {w : World} {K : PySem.W.Frag} {mg : Str → Option Value} {base : Heap}
theorem ok_chk_ordersX {f C : Addr} {fd : FuncData} (F : Fun K "check_orders" "check_orders" s_check_orders f fd) (B : Blt mg) (NE : NetErr P w K mg base C) (DI : Df P w K mg base "is_order" 3 P_is_order (spIsOrder K)) (hM : ∃ t, mg "MOST_ORDERS" = some (.int 20 t)) : FnOk P w K mg base (L2.CX P w) 4 f fd P_check_orders (spChkOrdersX K C) := by
  obtain ⟨fI, fdI, gI, kI, bI, GI⟩ := DI
  obtain ⟨tk20, hM⟩ := hM
  refine F.okX sc_check_orders (fun vs H Q E h => ?_) (fun cdv A outer s H vs Q E hr h => ?_)
  · obtain ⟨p, h, v, i, rfl, _⟩ := h
    rfl
  · obtain ⟨p, h, v, i, rfl, hb, q⟩ := h
    refine ⟨_, pss_cons (ps_if (pt_not (pt_val (pe_callB call_isi (by rfl) B.isi PyProof.Rows.boot_isinstance (pa_cons (pv 2) (pa_cons (pe_bltn (v := .ty "tuple") (by rfl) B.tuple (by decide +kernel) rfl) pa_nil))))) (pss_one (ps_raise rfl (takes_of rfl rfl rfl rfl) (pmk_neterr NE hr (by rfl) (pa_cons pe_str (pa_cons pe_int pa_nil))))) pss_nil)
      (pss_one (ps_for (passes_of rfl) rfl (pi_enumT (by rfl) B.enum (pa_cons (pv 2) pa_nil)) (pg_tup (by rfl) (pgs_cons (pg_name (i := 3) sc_check_orders.nd rfl (.inl rfl)) (pgs_cons (pg_name (i := 4) sc_check_orders.nd rfl (.inl rfl)) pgs_nil)))
        (pss_one (ps_if (PW.pt (pw_or (pt_cmpR op_eq (pv 3) (pe_glob (v := .int 20) rfl hM ⟨_, rfl⟩) (nomark _)) (pw_or1 (pt_not (pt_val (pe_call GI hr (by rfl) gI kI bI .nil pass0 (pa_cons (pv 0) (pa_cons (pv 1) (pa_cons (pv 4) pa_nil)))))))))
          (pss_one (ps_raise rfl (takes_of rfl rfl rfl rfl) (pmk_neterr NE hr (by rfl) (pa_cons pe_str (pa_cons (pv 3) pa_nil))))) pss_nil)))), ?_⟩
    rcases hb with ⟨rfl, t, ty, kt⟩ | ⟨t, ts, os, rfl, ht, il, i20, ol, hP, hok, bad⟩
    · refine ⟨_, rfl, _, _, _, _, false, rfl, .ty "tuple", ty, kit_ty kt, _, rfl, iteT ?_⟩
      exact ⟨"orders", 0, rfl, by show 6 ≤ 100; decide, by decide, fun d H2 nd hd oth => q d H2 (same_ext nd oth) hd⟩
    · refine ⟨_, rfl, _, _, _, _, true, rfl, .ty "tuple", .base (.tup ht), kit_ty (by decide +kernel), _, rfl, iteF ?_⟩
      refine ⟨_, rfl, t, ts, rfl, ht, for_enumT (K := K) (a := t) (xs := ts) (fun j σ H' => (∃ x y, σ = [some (.int p), some (.int h), some (.ref t), x, y]) ∧ Same H H' ∧ j ≤ i) ⟨⟨_, _, rfl⟩, .refl H, Nat.zero_le _⟩ (fun j σ H' ⟨_, s1, _⟩ => s1 _ _ ht) ?_ ?_⟩
      · rintro j x σ H1 T hj ⟨⟨x3, x4, rfl⟩, s1, ji⟩ nT
        have s2 := same_upd (o := HO.tup [.int (j : Nat), x]) nT
        have s12 := s1.trans s2
        refine ⟨T, _, rfl, SqT.of upd_same, rfl, _, _, rfl, _, _, rfl, rfl, ?_⟩
        have rz : ∀ (H3 : Hp), Same H H3 → j = i → ∀ d H2, H3 d = none → H2 d = some (.xd (netFs "orders" j)) → (∀ b, b ≠ d → H2 b = H3 b) → E (.ref C) (some d) H2 := fun H3 s3 e d H2 nd hd oth => q d H2 (s3.trans (same_ext nd oth)) (by rw [← e]; exact hd)
        by_cases c : j = 20
        · have ei : j = i := by omega
          refine ⟨_, rfl, rfl, true, congrArg V.bl (decide_eq_true (by rw [c]; rfl)), iteT ?_⟩
          exact ⟨_, rfl, "orders", j, rfl, by show 6 ≤ 100; decide, by omega, rz _ s12 ei⟩
        · refine ⟨_, rfl, rfl, false, congrArg V.bl (decide_eq_false fun z => c (by have := V.int.inj z; omega)), iteF ?_⟩
          by_cases d : j = i
          · obtain ⟨x', hx', hlike⟩ := bad.resolve_left (fun z => c (by omega))
            obtain rfl : x' = x := Option.some.inj (hx'.symm.trans (by rw [← d]; exact hj))
            refine ⟨_, rfl, _, rfl, _, rfl, x', p, h, false, rfl, hlike _ s12, _, rfl, iteT ?_⟩
            exact ⟨_, rfl, "orders", j, rfl, by show 6 ≤ 100; decide, by omega, rz _ s12 d⟩
          · have lt : j < os.length := by omega
            obtain ⟨x', hx', ho⟩ := Paired.get? (i := j) hP (List.getElem?_eq_getElem lt)
            rw [List.getElem?_take_of_lt (by omega)] at hx'
            obtain rfl : x' = x := Option.some.inj (hx'.symm.trans hj)
            have hk := hok _ (List.getElem_mem lt)
            exact ⟨_, rfl, _, rfl, _, rfl, x', p, h, true, rfl, OrdAt.like hk (ho.keep (tk_of s12)), _, rfl, iteF ⟨⟨_, _, rfl⟩, s12, by omega⟩⟩
      · rintro σ H1 ⟨_, s1, ji⟩
        omega
end
/-! ### parts that a net refuses -/
def spInitX (K : PySem.W.Frag) (C : Addr) : Sp := fun vs H _ E => ∃ (x : Addr) (a b c : V) (part : Str) (i : Nat), vs = [.ref x, a, b, c] ∧
  ((part = "period" ∧ i = 0 ∧ Kn K H a ∧ withinB a 1 30 = false) ∨
   (∃ p : Nat, a = .int p ∧ 1 ≤ p ∧ p ≤ 30 ∧ ((part = "houses" ∧ i = 0 ∧ Kn K H b ∧ withinB b 1 10 = false) ∨ ∃ h : Nat, b = .int h ∧ 1 ≤ h ∧ h ≤ 10 ∧ part = "orders" ∧ BadOrds K H p h c i))) ∧
  ∀ d H', Same H H' → H' d = some (.xd (netFs part i)) → E (.ref C) (some d) H'
section
variable {P : Program} {w : World} {K : PySem.W.Frag} {mg : Str → Option Value} {base : Heap}
theorem ok_initX {f fC C : Addr} {fd fdC : FuncData} (F : Fun K "__init__" "Net.__init__" s_Net_init f fd) (NE : NetErr P w K mg base C) (DW : Df P w K mg base "is_within" 2 P_is_within (spWithin K)) (gC : mg "check_orders" = some (.ref fC)) (kC : PySem.W.keepIn K (.ref fC) = true) (bC : Binds K fdC P_check_orders []) (GC : FnOk P w K mg base (L2.CX P w) 4 fC fdC P_check_orders (spChkOrdersX K C))
    (hP : ∃ t, mg "LONGEST_PERIOD" = some (.int 30 t)) (hH : ∃ t, mg "MOST_HOUSES" = some (.int 10 t)) : FnOk P w K mg base (L2.CX P w) 5 f fd P_Net_init (spInitX K C) := by
  obtain ⟨fW, fdW, gW, kW, bW, GW⟩ := DW
  obtain ⟨tkP, hP⟩ := hP
  obtain ⟨tkH, hH⟩ := hH
  refine F.okX sc_Net_init (fun vs H Q E h => ?_) (fun cdv A outer s H vs Q E hr h => ?_)
  · obtain ⟨x, a, b, c, part, i, rfl, _⟩ := h
    rfl
  · obtain ⟨x, a, b, c, part, i, rfl, hc, q⟩ := h
    have hr1 : Room 2 _ := hr.mono (by decide)
    have hr3 : Room 3 _ := hr.mono (by decide)
    refine ⟨_, pss_cons (ps_if (pt_not (pt_val (pe_call GW hr1 (by rfl) gW kW bW .nil pass0 (pa_cons (pv 1) (pa_cons pe_int (pa_cons (pe_glob (v := .int 30) rfl hP ⟨_, rfl⟩) pa_nil)))))) (pss_one (ps_raise rfl (takes_of rfl rfl rfl rfl) (pmk_neterr NE hr3 (by rfl) (pa_cons pe_str (pa_cons pe_int pa_nil))))) pss_nil)
      (pss_cons (ps_if (pt_not (pt_val (pe_call GW hr1 (by rfl) gW kW bW .nil pass0 (pa_cons (pv 2) (pa_cons pe_int (pa_cons (pe_glob (v := .int 10) rfl hH ⟨_, rfl⟩) pa_nil)))))) (pss_one (ps_raise rfl (takes_of rfl rfl rfl rfl) (pmk_neterr NE hr3 (by rfl) (pa_cons pe_str (pa_cons pe_int pa_nil))))) pss_nil)
      (pss_cons (ps_expr (pe_call (E := E) GC hr (by rfl) gC kC bC .nil (passes_call (takes_of rfl rfl rfl rfl) fun _ _ _ _ z => z) (pa_cons (pv 1) (pa_cons (pv 2) (pa_cons (pv 3) pa_nil)))))
      (pss_cons ps_never (pss_cons ps_never (pss_cons ps_never (pss_one ps_never)))))), ?_⟩
    rcases hc with ⟨rfl, rfl, ka, wa⟩ | ⟨p, rfl, p1, p30, hc⟩
    · refine ⟨_, rfl, a, 1, 30, rfl, ka, _, rfl, ?_⟩
      rw [wa]
      exact iteT ⟨"period", 0, rfl, by show 6 ≤ 100; decide, by decide, fun d H2 nd hd oth => q d H2 (same_ext nd oth) hd⟩
    · have w1 : withinB (.int p) 1 30 = true := within_nat (lo := 1) (hi := 30) p1 p30
      refine ⟨_, rfl, .int p, 1, 30, rfl, .int, _, rfl, ?_⟩
      rw [w1]
      refine iteF ?_
      rcases hc with ⟨rfl, rfl, kb, wb⟩ | ⟨h, rfl, h1, h10, rfl, bad⟩
      · refine ⟨_, rfl, b, 1, 10, rfl, kb, _, rfl, ?_⟩
        rw [wb]
        exact iteT ⟨"houses", 0, rfl, by show 6 ≤ 100; decide, by decide, fun d H2 nd hd oth => q d H2 (same_ext nd oth) hd⟩
      · have w2 : withinB (.int h) 1 10 = true := within_nat (lo := 1) (hi := 10) h1 h10
        refine ⟨_, rfl, .int h, 1, 10, rfl, .int, _, rfl, ?_⟩
        rw [w2]
        exact iteF ⟨_, rfl, _, rfl, _, rfl, p, h, c, i, rfl, bad, q⟩
end
/-! ### the lines of a text, when one is wrong -/
def LineBad (k : Nat) (line : Str) : Prop := ∃ w0 ws vals, line.length ≤ 100000 ∧ Txt.split line " " = w0 :: ws ∧ ws.length ≤ 60 ∧ Paired Wk ws vals ∧ rowOf (if k = 0 then "net" else "order") (if k = 0 then 2 else 5) (w0 :: ws) vals = none
def spRowsX (D : Addr) : Sp := fun vs H _ E => ∃ (text : Str) (lines : List Str) (k : Nat) (bad : Str), vs = [.str text] ∧ text.length ≤ 100000 ∧ Txt.split text "\n" = lines ∧ lines.length ≤ 100 ∧ (∀ i l, i < k → lines[i]? = some l → ∃ r, LineOk i l r) ∧ lines[k]? = some bad ∧ LineBad k bad ∧
  ∀ d H', Same H H' → H' d = some (.xd (oneFs "line" k)) → E (.ref D) (some d) H'
section
variable {P : Program} {w : World} {K : PySem.W.Frag} {mg : Str → Option Value} {base : Heap}
theorem ok_rowsX {f D : Addr} {ps : List Str} {fd : FuncData} (F : Fun K "read_rows" "read_rows" s_read_rows f fd) (B : Blt mg) (NE : OneErr P w K mg base "TextFault" "line" ps D) (DL : Df P w K mg base "read_line" 3 P_read_line spLine) : FnOk P w K mg base (L2.CX P w) 4 f fd P_read_rows (spRowsX D) := by
  obtain ⟨fL, fdL, gL, kL, bL, GL⟩ := DL
  refine F.okX sc_read_rows (fun vs H Q E h => ?_) (fun cdv A outer s H vs Q E hr h => ?_)
  · obtain ⟨text, lines, k, bad, rfl, _⟩ := h
    rfl
  · obtain ⟨text, lines, k, bad, rfl, ht, hs, hl, hok, hk, hbad, q⟩ := h
    refine ⟨_, pss_cons (ps_if (pt_not (pt_val (pe_callB call_isi (by rfl) B.isi PyProof.Rows.boot_isinstance (pa_cons (pv 0) (pa_cons (pe_bltn (v := .ty "str") (by rfl) B.str (by decide +kernel) rfl) pa_nil))))) (pss_one ps_never) pss_nil)
      (pss_cons (ps_set (i := 1) sc_read_rows.nd rfl (.inl rfl) (pe_lst pa_nil))
      (pss_cons (ps_asg (pe_tup (pa_cons pe_str (pa_cons pe_int pa_nil))) (pg_tup (by rfl) (pgs_cons (pg_name (i := 2) sc_read_rows.nd rfl (.inl rfl)) (pgs_cons (pg_name (i := 3) sc_read_rows.nd rfl (.inl rfl)) pgs_nil))))
      (pss_cons (ps_for (passes_of rfl) rfl (pi_enum (by rfl) B.enum (pa_cons (pe_split (pv 0) pe_str) pa_nil)) (pg_tup (by rfl) (pgs_cons (pg_name (i := 4) sc_read_rows.nd rfl (.inl rfl)) (pgs_cons (pg_name (i := 5) sc_read_rows.nd rfl (.inl rfl)) pgs_nil)))
        (pss_cons (ps_set (i := 6) sc_read_rows.nd rfl (.inl rfl) (pe_call GL hr (by rfl) gL kL bL .nil pass0 (pa_cons (pv 5) (pa_cons (pv 2) (pa_cons (pv 3) pa_nil)))))
        (pss_cons (ps_if (pt_cmpR op_isN (pv 6) pe_non (nomark _)) (pss_one (ps_raise rfl (takes_of rfl rfl rfl rfl) (pmk_oneerr NE hr (by rfl) (pa_cons (pv 4) pa_nil)))) pss_nil)
        (pss_cons (ps_expr (pe_bm PySem.F.plainAttrs_list PySem.F.slot_list_append PySem.F.type_list_append mt_append (pv 1) (pa_cons (pv 6) pa_nil)))
        (pss_one (ps_asg (pe_tup (pa_cons pe_str (pa_cons pe_int pa_nil))) (pg_tup (by rfl) (pgs_cons (pg_name (i := 2) sc_read_rows.nd rfl (.inl rfl)) (pgs_cons (pg_name (i := 3) sc_read_rows.nd rfl (.inl rfl)) pgs_nil)))))))))
      (pss_one ps_never)))), ?_⟩
    have kl : k < lines.length := (List.getElem?_eq_some_iff.mp hk).1
    refine ⟨_, rfl, _, _, _, _, true, rfl, .ty "str", .base (.str text), kit_ty (by decide +kernel), _, rfl, iteF ?_⟩
    refine ⟨Nat.zero_le _, fun r nr => ?_⟩
    refine ⟨(by show 2 ≤ sizeLine; decide), fun k0 nk0 => ⟨k0, _, rfl, SqT.of upd_same, rfl, _, _, rfl, _, _, rfl, rfl, ?_⟩⟩
    refine ⟨_, rfl, ⟨_, rfl⟩, text, "\n", rfl, rfl, rfl, by rw [sizeLine_eq]; omega, fun sp nsp => ?_⟩
    rw [hs]
    have s1 := same_upd (o := HO.lst []) nr
    have s0 := same_upd (o := HO.tup [.str "net", .int 2]) nk0
    have s2 := same_upd (o := HO.lst (lines.map V.str)) nsp
    have nrs : r ≠ sp := ne_of_none (s0 _ _ upd_same) nsp
    refine ⟨sp, _, rfl, SqL.of upd_same, for_enumL (K := K) (a := sp) (xs := lines.map V.str) (fun i σ H' => i ≤ k ∧ (∃ x4 x5 x6, σ = [some (.str text), some (.ref r), some (.str (if i = 0 then "net" else "order")), some (.int ((if i = 0 then 2 else 5 : Nat) : Int)), x4, x5, x6]) ∧ Same H H' ∧ H' sp = some (.lst (lines.map V.str)) ∧ ∃ us, H' r = some (.lst us) ∧ us.length = i)
      ⟨Nat.zero_le _, ⟨_, _, _, rfl⟩, s1.trans (s0.trans s2), upd_same, [], (upd_ne nrs).trans (s0 _ _ upd_same), rfl⟩ (fun i σ H' ⟨_, _, _, h', _⟩ => h') ?_ ?_⟩
    · rintro i x σ H1 T hi ⟨ik, ⟨x4, x5, x6, rfl⟩, s3, hsp, us, hus, hul⟩ nTT
      rw [List.getElem?_map] at hi
      obtain ⟨line, hline, rfl⟩ := Option.map_eq_some_iff.mp hi
      have s4 := same_upd (o := HO.tup [.int (i : Nat), .str line]) nTT
      refine ⟨T, _, rfl, SqT.of upd_same, rfl, _, _, rfl, _, _, rfl, rfl, ?_⟩
      by_cases c : i < k
      · obtain ⟨row, w0, ws, vals, a1, a2, a3, a4, a5⟩ := hok i line c hline
        refine ⟨_, rfl, _, rfl, _, rfl, line, _, w0, (if i = 0 then 2 else 5), ws, vals, rfl, a1, a2, a3, a4, fun H2 v s5 hv => ?_⟩
        rw [a5] at hv
        obtain ⟨u, rfl, nu, hu⟩ := hv
        have s45 := s4.trans s5
        have hr2 := s45 _ _ hus
        have hsp2 := s45 _ _ hsp
        refine ⟨_, rfl, rfl, _, rfl, iteF ⟨_, rfl, .inl ⟨rfl, _, SqL.of hr2⟩, _, rfl, r, _, _, rfl, rfl, hr2, ?_, ?_⟩⟩
        · rw [hul]
          exact small1000 (by omega)
        refine ⟨(by show 2 ≤ sizeLine; decide), fun k1 nk1 => ⟨k1, _, rfl, SqT.of upd_same, rfl, _, _, rfl, _, _, rfl, rfl, ?_⟩⟩
        have s6 := same_upd (o := HO.tup [.str "order", .int 5]) nk1
        refine ⟨c, ⟨_, _, _, rfl⟩, fun b o e => s6 _ _ ?_, s6 _ _ ((upd_ne nrs.symm).trans hsp2), us ++ [.ref u], s6 _ _ upd_same, by rw [List.length_append, hul]; rfl⟩
        rw [upd_ne (ne_of_none e nr)]
        exact s45 _ _ (s3 _ _ e)
      · obtain rfl : i = k := by omega
        obtain rfl : bad = line := Option.some.inj (hk.symm.trans hline)
        obtain ⟨w0, ws, vals, a1, a2, a3, a4, a5⟩ := hbad
        refine ⟨_, rfl, _, rfl, _, rfl, bad, _, w0, (if i = 0 then 2 else 5), ws, vals, rfl, a1, a2, a3, a4, fun H2 v s5 hv => ?_⟩
        rw [a5] at hv
        have hv : v = .non := hv
        subst hv
        refine ⟨_, rfl, rfl, _, rfl, iteT ?_⟩
        exact ⟨_, rfl, i, rfl, by omega, fun d H3 nd hd oth => q d H3 ((s3.trans (s4.trans s5)).trans (same_ext nd oth)) hd⟩
    · rintro σ H1 ⟨ik, _⟩
      rw [List.length_map] at ik
      omega
end
/-! ### the text of a net, when it is wrong: a line, or its parts -/
def spParseX (K : PySem.W.Frag) (C D N : Addr) : Sp := fun vs H Q E => ∃ (text : Str), vs = [.ref C, .str text] ∧ text.length ≤ 100000 ∧
  ((∃ (k : Nat) (bad : Str), (Txt.split text "\n").length ≤ 100 ∧ (∀ i l, i < k → (Txt.split text "\n")[i]? = some l → ∃ r, LineOk i l r) ∧ (Txt.split text "\n")[k]? = some bad ∧ LineBad k bad ∧ ∀ d H', Same H H' → H' d = some (.xd (oneFs "line" k)) → E (.ref D) (some d) H') ∨
   ∃ (p h : Nat) (rows : List (List Nat)), (Txt.split text "\n").length = rows.length + 1 ∧ rows.length + 1 ≤ 100 ∧ (∀ k l r, (Txt.split text "\n")[k]? = some l → ([p, h] :: rows)[k]? = some r → LineOk k l r) ∧
     ∀ H1 x u us, Same H H1 → H1 u = some (.tup us) → Paired (RowTup H1) us rows → spInitX K N [.ref x, .int p, .int h, .ref u] H1 Q E)
section
variable {P : Program} {w : World} {K : PySem.W.Frag} {mg : Str → Option Value} {base : Heap}
theorem ok_parseX {f C D N fI : Addr} {fd fdI : FuncData} (F : Fun K "parse" "Net.parse" s_Net_parse f fd) (B : Blt mg) {fR : Addr} {fdR : FuncData} (gR : mg "read_rows" = some (.ref fR)) (kR : PySem.W.keepIn K (.ref fR) = true) (bR : Binds K fdR P_read_rows []) (GR : FnOk P w K mg base CX0 4 fR fdR P_read_rows spRows) (GRX : FnOk P w K mg base (L2.CX P w) 4 fR fdR P_read_rows (spRowsX D))
    (M : Mk K C fI) (GI : FnOk P w K mg base (L2.CX P w) 5 fI fdI P_Net_init (spInitX K N)) (bI : Binds K fdI P_Net_init []) : FnOk P w K mg base (L2.CX P w) 7 f fd P_Net_parse (spParseX K C D N) := by
  have GRB := FnOk.or (FnOk.up GR) GRX
  refine F.okX sc_Net_parse (fun vs H Q E h => ?_) (fun cdv A outer s H vs Q E hr h => ?_)
  · obtain ⟨text, rfl, _⟩ := h
    rfl
  · obtain ⟨text, rfl, ht, h⟩ := h
    have hr3 : Room 4 _ := hr.mono (by decide)
    refine ⟨_, pss_cons (ps_set (i := 2) sc_Net_parse.nd rfl (.inl rfl) (pe_call (E := E) GRB hr3 (by rfl) gR kR bR .nil (passes_call (takes_of rfl rfl rfl rfl) fun _ _ _ _ z => z) (pa_cons (pv 1) pa_nil)))
      (pss_cons (ps_asg (pe_ix ix_list (pv 2) pe_int (fun _ _ => rfl)) (pg_tup (by rfl) (pgs_cons (pg_name (i := 3) sc_Net_parse.nd rfl (.inl rfl)) (pgs_cons (pg_name (i := 4) sc_Net_parse.nd rfl (.inl rfl)) pgs_nil))))
      (pss_one (ps_ret (pe_makeL (E := E) (i := 0) M GI hr rfl (.inl rfl) bI .nil (passes_call (takes_of rfl rfl rfl rfl) fun _ _ _ _ z => z) (pa_cons (pv 3) (pa_cons (pv 4) (pa_cons (pe_callTy call_tuple_of (by rfl) B.tuple (by decide +kernel) (pa_cons (pe_slice sl_list (pv 2) (po_some pe_int) po_none) pa_nil)) pa_nil))))))), ?_⟩
    rcases h with ⟨k, bad, h100, hok, hk, hbad, q⟩ | ⟨p, h, rows, hl, h100, hok, q⟩
    · exact ⟨_, rfl, .inr ⟨text, _, k, bad, rfl, ht, rfl, h100, hok, hk, hbad, q⟩⟩
    · refine ⟨_, rfl, .inl ⟨text, _, [p, h] :: rows, rfl, ht, rfl, hl, h100, hok, fun H1 r us s1 nr hr1 hus => ?_⟩⟩
      cases hus with
      | cons hu0 hus =>
      rename_i v0 us
      obtain ⟨u0, rfl, hu0⟩ := hu0
      refine ⟨_, rfl, r, _, 0, _, rfl, rfl, SqL.of hr1, atI_nat (j := 0) rfl, u0, _, rfl, SqT.of hu0, rfl, _, _, rfl, _, _, rfl, rfl, ?_⟩
      refine ⟨rfl, _, rfl, _, rfl, _, rfl, 1, rfl, r, _, rfl, SqL.of hr1, fun cl ncl => ?_⟩
      rw [show cutV (V.ref u0 :: us) (some (1 : Int)) none = (V.ref u0 :: us).drop 1 from cut_from (n := 1)]
      have s2 := same_upd (o := HO.lst ((V.ref u0 :: us).drop 1)) ncl
      refine ⟨cl, us, rfl, .inl ⟨SqL.of upd_same, fun tt ntt => ?_⟩⟩
      have s3 := same_upd (o := HO.tup us) ntt
      have s13 := s1.trans (s2.trans s3)
      have h3 : (upd (upd H1 cl (.lst ((V.ref u0 :: us).drop 1))) tt (.tup us)) tt = some (.tup us) := upd_same
      have hU : Paired (RowTup (upd (upd H1 cl (.lst ((V.ref u0 :: us).drop 1))) tt (.tup us))) us rows := Paired.mapP hus fun _ _ z => z.keep (tk_of (s2.trans s3))
      generalize (upd (upd H1 cl (.lst ((V.ref u0 :: us).drop 1))) tt (.tup us)) = H3 at s13 h3 hU
      intro x dx nx ndx nex
      have s0 : Same H3 (upd (upd H3 dx (.own x)) x (.ins C dx [])) := same_updN (same_upd ndx) nx
      exact q _ x tt us (s13.trans s0) (s0 _ _ h3) (Paired.mapP hU fun _ _ z => z.keep (tk_of s0))
end
/-! ### a law that makes lambdas: its own def, its table, what stands when a table grows -/
open LamX (Tabs TabS ExtN TabB CodeO) in
section
variable {K : PySem.W.Frag}
structure FunC (K : PySem.W.Frag) (x qual : Str) (st : Stmt) (f : Addr) (fd : FuncData) (c : Addr) : Prop where
  ex : ∃ (oc : Value) (od : Option Addr) (kV doc pm : Value) (an : Option Addr) (ct : Value) (osl : Array (Option Value)),
    fd = PySem.W.fnOf x qual (defArgs st) (defBody st) (defScope st) .none kV doc pm an (.ref c) ct ∧ K.lookup f = some ⟨oc, od, .func fd, osl⟩ ∧ PySem.W.codeIn K (.ref c) qual = true
theorem FunC.ok {P : Program} {w : World} {mg : Str → Option Value} {base : Heap} {x qual : Str} {st : Stmt} {f c : Addr} {fd : FuncData} {N ps : List Str} {k : Nat} {sp : Sp} (F : FunC K x qual st f fd c) (S : FnScope N ps (defScope st)) (len : ∀ vs H Q E, sp vs H Q E → vs.length = ps.length)
    (hbody : ∀ (A : Around) (outer : List Env) (s : Shared) (H : Hp) (vs : List V) (Q : VK) (E : XK), Room k (A.deeper (PyProof.Rows.envOfC qual (defScope st) s.heap.objs.size f (.ref c))) → sp vs H Q E →
      ∃ t, PSs (cxOf CX0 P w K mg base N qual (defScope st) f (.ref c) A outer s H E).nox (defBody st) t ∧ t { nx := fun _ H' => Q .non H', rt := Q } (L2.start N vs) H) : FnOk P w K mg base CX0 (k + 1) f fd ps sp := by
  obtain ⟨oc, od, kV, doc, pm, an, ct, osl, rfl, lk, hcd⟩ := F.ex
  refine fn_of lk hcd S len fun A outer s H vs Q E hr hsp => ?_
  obtain ⟨t, h, q⟩ := hbody A outer s H vs Q E hr hsp
  exact ⟨t, h.nox, q⟩
/-- the law's promise where its code object's table is Pt -/
def spLawT (K : PySem.W.Frag) (Pt : Addr) : Sp := fun vs H Q _ => ∃ (a : Addr) (ns : List Int), vs = [.ref a] ∧ SqL K H a (ns.map V.int) ∧ ns.length ≤ 63 ∧ H Pt = some (.tbl #[]) ∧ ∀ H', Q (.bl true) H'
theorem codeO_lst {c : Addr} {q : Str} {xs : List V} : CodeO c q ≠ .lst xs := fun z => by
  unfold CodeO at z
  cases z
theorem codeO_ins {c C dx : Addr} {q : Str} {fs : List (Str × V)} : CodeO c q ≠ .ins C dx fs := fun z => by
  unfold CodeO at z
  cases z
theorem tabs_but {T : List (Addr × Str)} {H H' : Hp} {d : Addr} {o : HO} (t : Tabs T H) (b : But d H H') (hd : H d = some o) (n1 : ∀ ps, o ≠ .tbl ps) (n2 : ∀ c q, o ≠ CodeO c q) : Tabs T H' := fun p hp => by
  obtain ⟨ps, h1, h2, h3⟩ := t p hp
  refine ⟨ps, b _ _ (fun z => ?_) h1, h2, fun pos cv hc => ?_⟩
  · rw [z, hd] at h1
    exact n1 _ (Option.some.inj h1)
  · obtain ⟨c, e, h4⟩ := h3 pos cv hc
    refine ⟨c, e, b _ _ (fun z => ?_) h4⟩
    rw [z, hd] at h4
    exact n2 _ _ (Option.some.inj h4)
theorem tabs_butL {T : List (Addr × Str)} {H H' : Hp} {d : Addr} {xs : List V} (t : Tabs T H) (b : But d H H') (hd : H d = some (.lst xs)) : Tabs T H' := tabs_but t b hd (fun ps z => by cases z) fun c q z => codeO_lst z.symm
theorem tabs_butD {T : List (Addr × Str)} {H H' : Hp} {d : Addr} (t : Tabs T H) (b : But d H H') (D : DAt H d) : Tabs T H' := by
  obtain ⟨_, _, _, _, _, hd⟩ := D
  exact tabs_butL t b hd
theorem tabs_butI {T : List (Addr × Str)} {H H' : Hp} {s C dx : Addr} {fs : List (Str × V)} (t : Tabs T H) (b : But s H H') (hi : H s = some (.ins C dx fs)) : Tabs T H' := tabs_but t b hi (fun ps z => by cases z) fun c q z => codeO_ins z.symm
section
variable {H H' : Hp}
theorem ExtN.tk (e : ExtN H H') : TupKeep H H' := fun _ _ h => e _ _ h fun ps z => by cases z
theorem ExtN.lst (e : ExtN H H') {b : Addr} {xs : List V} (h : H b = some (.lst xs)) : H' b = some (.lst xs) := e _ _ h fun ps z => by cases z
theorem ExtN.ins (e : ExtN H H') {b C dx : Addr} {fs : List (Str × V)} (h : H b = some (.ins C dx fs)) : H' b = some (.ins C dx fs) := e _ _ h fun ps z => by cases z
theorem ExtN.dT (e : ExtN H H') {b : Addr} {kvs : List (List L2.Key × V)} (h : H b = some (.dT kvs)) : H' b = some (.dT kvs) := e _ _ h fun ps z => by cases z
theorem DAt.extN {d : Addr} (D : DAt H d) (e : ExtN H H') : DAt H' d := by
  obtain ⟨a, b, c, h1, h2, h3⟩ := D
  exact ⟨a, b, c, h1, h2, ExtN.lst e h3⟩
theorem NetAt.extN {C : Addr} {x : Addr} {p h : Nat} {os : List Od} {t : Addr} {F : List Addr} (N : NetAt C H x p h os t F) (e : ExtN H H') : NetAt C H' x p h os t F := by
  obtain ⟨dx, fl, as, rfl, h1, h2, h3, h4, h5⟩ := N
  exact ⟨dx, fl, as, rfl, ExtN.ins e h1, h2.keep (ExtN.tk e), ExtN.lst e h3, h4, fun i a hi => ExtN.lst e (h5 i a hi)⟩
theorem tabs_same {T : List (Addr × Str)} (t : Tabs T H) (s : Same H H') : Tabs T H' := LamX.Tabs.ext t fun b o e => s b o e
end
end
abbrev s_l_error_of : Stmt := top 39
abbrev N_l_error_of : List Str := ["_law_call", "e", "_law_kinds", "_law_names", "_law_name"]
abbrev P_l_error_of : List Str := ["_law_call"]
theorem sc_l_error_of : FnScope N_l_error_of P_l_error_of (defScope s_l_error_of) := ⟨rfl, rfl, rfl, by decide +kernel, rfl, by decide +kernel, by decide +kernel⟩
/-! ### the law's helper: which error a call raises -/
def eNames : List Str := ["day", "house", "number", "limit", "order", "many", "long", "result", "contradiction", "name", "unknown", "net", "text", "code", "operation"]
def eName (i : Nat) : Str := eNames.getD i "day"
/-- the classes of errors, by the names that the law's helper asks for -/
structure ErrM (mg : Str → Option Value) (CP : Addr) (c : Nat → Addr) : Prop where
  gp : mg "PostError" = some (.ref CP)
  g0 : mg "InvalidDay" = some (.ref (c 0))
  g1 : mg "UnknownHouse" = some (.ref (c 1))
  g2 : mg "UnknownOrder" = some (.ref (c 2))
  g3 : mg "InvalidLimit" = some (.ref (c 3))
  g4 : mg "InvalidOrder" = some (.ref (c 4))
  g5 : mg "TooManyOrders" = some (.ref (c 5))
  g6 : mg "TooLong" = some (.ref (c 6))
  g7 : mg "InvalidResult" = some (.ref (c 7))
  g8 : mg "Contradiction" = some (.ref (c 8))
  g9 : mg "InvalidName" = some (.ref (c 9))
  g10 : mg "UnknownName" = some (.ref (c 10))
  g11 : mg "InvalidNet" = some (.ref (c 11))
  g12 : mg "TextFault" = some (.ref (c 12))
  g13 : mg "InvalidCode" = some (.ref (c 13))
  g14 : mg "InvalidOperation" = some (.ref (c 14))
  gv : mg "ValueError" = none
/-- D is the i-th of these classes -/
structure Err15 (K : PySem.W.Frag) (CP : Addr) (c : Nat → Addr) (D : Addr) (i : Nat) : Prop where
  lt : i < 15
  cl : ExcC K D
  ex : PySem.W.exmOne K (.ref D) (.ref CP) = some true
  is : ∀ j, j < 15 → PySem.W.kitOne K (.ref D) (.ref (c j)) = some (decide (j = i))
  ve : PySem.W.kitOne K (.ref D) (.type "ValueError") = some true
def kindsL (i : Nat) : List V := (List.range 15).map fun j => V.bl (decide (j = i))
theorem kinds_count (i : Nat) (h : i < 15) : ((List.range 15).map fun j => PyData.bool (decide (j = i))).countP (fun z => PyData.eqv z (.bool true)) = 1 := by
  rw [List.countP_map]
  have e : ((fun z => PyData.eqv z (.bool true)) ∘ fun j => PyData.bool (decide (j = i))) = fun j => decide (j = i) := by
    funext j
    show PyData.eqv (.bool (decide (j = i))) (.bool true) = decide (j = i)
    cases decide (j = i) <;> simp [PyData.eqv]
  rw [e]
  have : ∀ i, i < 15 → (List.range 15).countP (fun j => decide (j = i)) = 1 := by decide +kernel
  exact this i h
section
variable {K : PySem.W.Frag} {H : Hp}
theorem kinds_dp (i : Nat) : DpAll K H (kindsL i) ((List.range 15).map fun j => PyData.bool (decide (j = i))) := by
  unfold kindsL
  generalize List.range 15 = l
  induction l with
  | nil => exact .nil
  | cons j r ih => exact .cons (.bl _) ih
end
theorem kinds_plain (i : Nat) : PyData.plainAll ((List.range 15).map fun j => PyData.bool (decide (j = i))) = true := by
  generalize List.range 15 = l
  induction l with
  | nil => rfl
  | cons j r ih => simp [PyData.plainAll, PyData.plain, ih]
theorem kinds_at {i j : Nat} (h : j < 15) : (kindsL i)[j]? = some (V.bl (decide (j = i))) := by
  unfold kindsL
  rw [List.getElem?_map, List.getElem?_range h]
  rfl
theorem kinds_flat (i : Nat) : (kindsL i).all flatV = true := by
  rw [List.all_eq_true]
  intro v hv
  obtain ⟨j, _, rfl⟩ := List.mem_map.mp hv
  rfl
theorem eName_plain : ∀ i, i < 11 → eName i ≠ "net" ∧ eName i ≠ "text" ∧ eName i ≠ "code" ∧ eName i ≠ "operation" := by decide +kernel
theorem eName_at {i : Nat} (h : i < 15) : (eNames.map V.str)[i]? = some (V.str (eName i)) := by
  have hl : i < eNames.length := h
  unfold eName
  rw [List.getElem?_map, List.getElem?_eq_getElem hl]
  simp [List.getD, List.getElem?_eq_getElem hl]
section
variable {X : Cx}
theorem pe_never {e : Expr} : PE X e (fun _ _ _ => False) := ⟨fun _ _ _ _ _ _ h => h.elim⟩
end
section
open LamX
variable {X : Cx} {C : Addr}
/-- what the helper makes of a call that raises one of the plain errors, or none -/
def TTerr (K : PySem.W.Frag) (CP : Addr) (c : Nat → Addr) : (XK → Hp → VK → Prop) → Hp → VK → Prop := fun tl H Q =>
  tl (fun cls d H' => ∃ D i, cls = .ref D ∧ d = none ∧ Err15 K CP c D i ∧ i < 11 ∧ ∀ u H'', Same H' H'' → H'' u = some (.tup [.str (eName i), .int 0]) → Q (.ref u) H'') H fun _ H' => Q .non H'
set_option maxHeartbeats 0 in
theorem err_core {g CP : Addr} {cdg : Value} {c : Nat → Addr} {k : Nat} (M : ErrM X.mg CP c) (B : Blt X.mg) (hr : Room (k + 2) X.A) {f : Addr} {s : Shared} {H : Hp} {Q : VK} {tl : XK → Hp → VK → Prop}
    (act : ∀ (W : WX) (pn : List (Addr × Obj)) (xe : Value → Shared → Prop) (E : XK) (p1 p2 : Pos), L2.Takes ((cxOf C8.CX0 X.prog X.w X.K X.mg X.base N_l_error_of "_law_error_of" (defScope s_l_error_of) g cdg X.A X.stack s H C8.E0).tr pn xe) W → (∀ cls d σ' H', E cls d H' → W cls d σ' H') →
      PE ((cxOf C8.CX0 X.prog X.w X.K X.mg X.base N_l_error_of "_law_error_of" (defScope s_l_error_of) g cdg X.A X.stack s H C8.E0).tr pn xe) (.Call (.Name "_law_call" p1) [] [] p2) (fun σZ HZ Q => σZ[0]? = some (some (.ref f)) ∧ tl E HZ Q)) (h : TTerr X.K CP c tl H Q) :
    ∃ t, PSs (cxOf C8.CX0 X.prog X.w X.K X.mg X.base N_l_error_of "_law_error_of" (defScope s_l_error_of) g cdg X.A X.stack s H C8.E0).nox (defBody s_l_error_of) t ∧ t { nx := fun _ H' => Q .non H', rt := Q } (L2.start N_l_error_of [.ref f]) H := by
  have hu : (X.A.deeper (PyProof.Rows.envOfC "_law_error_of" (defScope s_l_error_of) s.heap.objs.size g cdg)).units + 65 < cLine := by
    have := (hr.deeper (PyProof.Rows.envOfC "_law_error_of" (defScope s_l_error_of) s.heap.objs.size g cdg)).un
    omega
  refine ⟨_, pss_cons (ps_try_as (X := (cxOf C8.CX0 X.prog X.w X.K X.mg X.base N_l_error_of "_law_error_of" (defScope s_l_error_of) g cdg X.A X.stack s H C8.E0).nox) (c := .ref CP) (i := 1)
      (tb := fun W D σ H => ∃ Ech : XK, (∀ cls d σ' H', Ech cls d H' → W cls d σ' H') ∧ σ[0]? = some (some (.ref f)) ∧ tl Ech H (fun _ H' => D.nx σ H'))
      (ts := fun a cls d Dn σ H => ∃ D i, cls = .ref D ∧ d = none ∧ Err15 X.K CP c D i ∧ i < 11 ∧ (∃ σ0 : L2.St, σ = σ0.set 1 (some (.ref a))) ∧ ∀ u H'', Same H H'' → H'' u = some (.tup [.str (eName i), .int 0]) → Dn.rt (.ref u) H'')
      rfl rfl sc_l_error_of.nd rfl rfl ⟨rfl, by decide, .inl M.gp⟩ L2.takes0 (fun W pn xe tk _ => ?_) (fun a oe cls d pn hz hf => ?_)) (pss_one (ps_ret pe_non)), ?_⟩
  · refine ⟨fun pins s' σ H' D I h' => ?_⟩
    obtain ⟨Ech, hW, h1, h3⟩ := h'
    refine PSs.run (pss_one (ps_expr (act W pn xe Ech _ _ tk hW))) pins s' σ H' D I ⟨h1, h3⟩
  · refine ⟨fun pins s' σ H' Dn I' h' => ?_⟩
    obtain ⟨D, i, rfl, rfl, e15, hi, ⟨σ0, rfl⟩, hq⟩ := h'
    have hlen : (σ0.set 1 (some (V.ref a))).length = 5 := I'.len
    rw [List.length_set] at hlen
    obtain ⟨y0, y1, y2, y3, y4, rfl⟩ : ∃ y0 y1 y2 y3 y4, σ0 = [y0, y1, y2, y3, y4] := by
      match σ0, hlen with
      | [y0, y1, y2, y3, y4], _ => exact ⟨_, _, _, _, _, rfl⟩
    let Z : Cx := (cxOf C8.CX0 X.prog X.w X.K X.mg X.base N_l_error_of "_law_error_of" (defScope s_l_error_of) g cdg X.A X.stack s H C8.E0).nox
    have iE := call_isE (X := Z) (a := a) (D := D) (oe := oe) (pn := pn) e15.cl hz hf
    refine PSs.run (X := Z.suite a ((a, oe) :: pn)) (pss_cons (ps_set (i := 2) sc_l_error_of.nd rfl (.inl rfl) (pe_lst (pa_cons (pe_callB iE (by rfl) B.isi PyProof.Rows.boot_isinstance (pa_cons (pv 1) (pa_cons (pe_glob (v := .ref (c 0)) (by rfl) M.g0 rfl) pa_nil))) (pa_cons (pe_callB iE (by rfl) B.isi PyProof.Rows.boot_isinstance (pa_cons (pv 1) (pa_cons (pe_glob (v := .ref (c 1)) (by rfl) M.g1 rfl) pa_nil))) (pa_cons (pe_callB iE (by rfl) B.isi PyProof.Rows.boot_isinstance (pa_cons (pv 1) (pa_cons (pe_glob (v := .ref (c 2)) (by rfl) M.g2 rfl) pa_nil))) pa_nil)))))
        (pss_cons (ps_set (i := 2) sc_l_error_of.nd rfl (.inl rfl) (pe_op op_cat (pv 2) (pe_lst (pa_cons (pe_callB iE (by rfl) B.isi PyProof.Rows.boot_isinstance (pa_cons (pv 1) (pa_cons (pe_glob (v := .ref (c 3)) (by rfl) M.g3 rfl) pa_nil))) (pa_cons (pe_callB iE (by rfl) B.isi PyProof.Rows.boot_isinstance (pa_cons (pv 1) (pa_cons (pe_glob (v := .ref (c 4)) (by rfl) M.g4 rfl) pa_nil))) (pa_cons (pe_callB iE (by rfl) B.isi PyProof.Rows.boot_isinstance (pa_cons (pv 1) (pa_cons (pe_glob (v := .ref (c 5)) (by rfl) M.g5 rfl) pa_nil))) pa_nil))))))
        (pss_cons (ps_set (i := 2) sc_l_error_of.nd rfl (.inl rfl) (pe_op op_cat (pv 2) (pe_lst (pa_cons (pe_callB iE (by rfl) B.isi PyProof.Rows.boot_isinstance (pa_cons (pv 1) (pa_cons (pe_glob (v := .ref (c 6)) (by rfl) M.g6 rfl) pa_nil))) (pa_cons (pe_callB iE (by rfl) B.isi PyProof.Rows.boot_isinstance (pa_cons (pv 1) (pa_cons (pe_glob (v := .ref (c 7)) (by rfl) M.g7 rfl) pa_nil))) (pa_cons (pe_callB iE (by rfl) B.isi PyProof.Rows.boot_isinstance (pa_cons (pv 1) (pa_cons (pe_glob (v := .ref (c 8)) (by rfl) M.g8 rfl) pa_nil))) pa_nil))))))
        (pss_cons (ps_set (i := 2) sc_l_error_of.nd rfl (.inl rfl) (pe_op op_cat (pv 2) (pe_lst (pa_cons (pe_callB iE (by rfl) B.isi PyProof.Rows.boot_isinstance (pa_cons (pv 1) (pa_cons (pe_glob (v := .ref (c 9)) (by rfl) M.g9 rfl) pa_nil))) (pa_cons (pe_callB iE (by rfl) B.isi PyProof.Rows.boot_isinstance (pa_cons (pv 1) (pa_cons (pe_glob (v := .ref (c 10)) (by rfl) M.g10 rfl) pa_nil))) (pa_cons (pe_callB iE (by rfl) B.isi PyProof.Rows.boot_isinstance (pa_cons (pv 1) (pa_cons (pe_glob (v := .ref (c 11)) (by rfl) M.g11 rfl) pa_nil))) pa_nil))))))
        (pss_cons (ps_set (i := 2) sc_l_error_of.nd rfl (.inl rfl) (pe_op op_cat (pv 2) (pe_lst (pa_cons (pe_callB iE (by rfl) B.isi PyProof.Rows.boot_isinstance (pa_cons (pv 1) (pa_cons (pe_glob (v := .ref (c 12)) (by rfl) M.g12 rfl) pa_nil))) (pa_cons (pe_callB iE (by rfl) B.isi PyProof.Rows.boot_isinstance (pa_cons (pv 1) (pa_cons (pe_glob (v := .ref (c 13)) (by rfl) M.g13 rfl) pa_nil))) (pa_cons (pe_callB iE (by rfl) B.isi PyProof.Rows.boot_isinstance (pa_cons (pv 1) (pa_cons (pe_glob (v := .ref (c 14)) (by rfl) M.g14 rfl) pa_nil))) pa_nil))))))
        (pss_cons (ps_if (PW.pt (pw_or (pt_cmpR op_ne (pe_bm PySem.F.plainAttrs_list PySem.F.slot_list_count PySem.F.type_list_count (mt_countD hu) (pv 2) (pa_cons pe_bl pa_nil)) pe_int (nomark _)) (pw_or1 (pt_not (pt_val (pe_callB iE (by rfl) B.isi PyProof.Rows.boot_isinstance (pa_cons (pv 1) (pa_cons (pe_bltn (v := .ty "ValueError") (by rfl) M.gv (by decide +kernel) rfl) pa_nil)))))))) (pss_one (ps_ret (pe_tup (pa_cons pe_str (pa_cons pe_int pa_nil))))) pss_nil)
        (pss_cons (ps_set (i := 3) sc_l_error_of.nd rfl (.inl rfl) (pe_lst (pa_cons pe_str (pa_cons pe_str (pa_cons pe_str (pa_cons pe_str (pa_cons pe_str (pa_cons pe_str (pa_cons pe_str (pa_cons pe_str (pa_cons pe_str (pa_cons pe_str pa_nil))))))))))))
        (pss_cons (ps_set (i := 4) sc_l_error_of.nd rfl (.inl rfl) (pe_ix ix_list (pe_op op_cat (pv 3) (pe_lst (pa_cons pe_str (pa_cons pe_str (pa_cons pe_str (pa_cons pe_str (pa_cons pe_str pa_nil))))))) (pe_bm PySem.F.plainAttrs_list PySem.F.slot_list_index PySem.F.type_list_index mt_index (pv 2) (pa_cons pe_bl pa_nil)) (fun _ _ => rfl)))
        (pss_cons (ps_if (pt_cmpR op_eq (pv 4) pe_str (nomark _)) (pss_one (ps_ret pe_never)) pss_nil)
        (pss_cons (ps_if (pt_cmpR op_eq (pv 4) pe_str (nomark _)) (pss_one (ps_ret pe_never)) pss_nil)
        (pss_one (ps_ret (pe_tup (pa_cons (pv 4) (pa_cons (pe_ifExp (pt_cmpR op_in_seq (pv 4) (pe_lst (pa_cons pe_str (pa_cons pe_str pa_nil))) rfl) pe_never pe_int) pa_nil))))))))))))))) pins s' _ H' Dn I' ?_
    refine ⟨_, rfl, .ref (c 0), .ref (c 0), _, rfl, (fun _ r => r), e15.is 0 (by decide), _, rfl, .ref (c 1), .ref (c 1), _, rfl, (fun _ r => r), e15.is 1 (by decide), _, rfl, .ref (c 2), .ref (c 2), _, rfl, (fun _ r => r), e15.is 2 (by decide), (by show 3 ≤ sizeLine; decide), fun l0 n0 => ?_⟩
    have hk0 : (upd H' l0 (.lst [.bl (decide (0 = i)), .bl (decide (1 = i)), .bl (decide (2 = i))])) l0 = some (.lst [.bl (decide (0 = i)), .bl (decide (1 = i)), .bl (decide (2 = i))]) := upd_same
    have sm0 := same_upd (o := HO.lst [.bl (decide (0 = i)), .bl (decide (1 = i)), .bl (decide (2 = i))]) n0
    generalize (upd H' l0 (.lst [.bl (decide (0 = i)), .bl (decide (1 = i)), .bl (decide (2 = i))])) = H0 at hk0 sm0
    refine ⟨_, rfl, _, rfl, .ref (c 3), .ref (c 3), _, rfl, (fun _ r => r), e15.is 3 (by decide), _, rfl, .ref (c 4), .ref (c 4), _, rfl, (fun _ r => r), e15.is 4 (by decide), _, rfl, .ref (c 5), .ref (c 5), _, rfl, (fun _ r => r), e15.is 5 (by decide), (by show 3 ≤ sizeLine; decide), fun b1 nb1 => ?_⟩
    obtain ⟨L1, eL1⟩ : ∃ L : List V, L = [.bl (decide (0 = i)), .bl (decide (1 = i)), .bl (decide (2 = i))] ++ [.bl (decide (3 = i)), .bl (decide (4 = i)), .bl (decide (5 = i))] := ⟨_, rfl⟩
    have sb1 := same_upd (o := HO.lst [.bl (decide (3 = i)), .bl (decide (4 = i)), .bl (decide (5 = i))]) nb1
    refine ⟨l0, b1, _, _, rfl, rfl, sb1 _ _ hk0, upd_same, (by show 3 + 3 ≤ sizeLine; decide), fun l1 n1 => ?_⟩
    rw [← eL1]
    have sm1 := sm0.trans (sb1.trans (same_upd (o := HO.lst L1) n1))
    have hk1 : (upd (upd H0 b1 (.lst [.bl (decide (3 = i)), .bl (decide (4 = i)), .bl (decide (5 = i))])) l1 (.lst L1)) l1 = some (.lst L1) := upd_same
    generalize (upd (upd H0 b1 (.lst [.bl (decide (3 = i)), .bl (decide (4 = i)), .bl (decide (5 = i))])) l1 (.lst L1)) = H1 at hk1 sm1
    refine ⟨_, rfl, _, rfl, .ref (c 6), .ref (c 6), _, rfl, (fun _ r => r), e15.is 6 (by decide), _, rfl, .ref (c 7), .ref (c 7), _, rfl, (fun _ r => r), e15.is 7 (by decide), _, rfl, .ref (c 8), .ref (c 8), _, rfl, (fun _ r => r), e15.is 8 (by decide), (by show 3 ≤ sizeLine; decide), fun b2 nb2 => ?_⟩
    obtain ⟨L2, eL2⟩ : ∃ L : List V, L = L1 ++ [.bl (decide (6 = i)), .bl (decide (7 = i)), .bl (decide (8 = i))] := ⟨_, rfl⟩
    have sb2 := same_upd (o := HO.lst [.bl (decide (6 = i)), .bl (decide (7 = i)), .bl (decide (8 = i))]) nb2
    refine ⟨l1, b2, _, _, rfl, rfl, sb2 _ _ hk1, upd_same, (by rw [eL1]; show 6 + 3 ≤ sizeLine; decide), fun l2 n2 => ?_⟩
    rw [← eL2]
    have sm2 := sm1.trans (sb2.trans (same_upd (o := HO.lst L2) n2))
    have hk2 : (upd (upd H1 b2 (.lst [.bl (decide (6 = i)), .bl (decide (7 = i)), .bl (decide (8 = i))])) l2 (.lst L2)) l2 = some (.lst L2) := upd_same
    generalize (upd (upd H1 b2 (.lst [.bl (decide (6 = i)), .bl (decide (7 = i)), .bl (decide (8 = i))])) l2 (.lst L2)) = H2 at hk2 sm2
    refine ⟨_, rfl, _, rfl, .ref (c 9), .ref (c 9), _, rfl, (fun _ r => r), e15.is 9 (by decide), _, rfl, .ref (c 10), .ref (c 10), _, rfl, (fun _ r => r), e15.is 10 (by decide), _, rfl, .ref (c 11), .ref (c 11), _, rfl, (fun _ r => r), e15.is 11 (by decide), (by show 3 ≤ sizeLine; decide), fun b3 nb3 => ?_⟩
    obtain ⟨L3, eL3⟩ : ∃ L : List V, L = L2 ++ [.bl (decide (9 = i)), .bl (decide (10 = i)), .bl (decide (11 = i))] := ⟨_, rfl⟩
    have sb3 := same_upd (o := HO.lst [.bl (decide (9 = i)), .bl (decide (10 = i)), .bl (decide (11 = i))]) nb3
    refine ⟨l2, b3, _, _, rfl, rfl, sb3 _ _ hk2, upd_same, (by rw [eL2, eL1]; show 9 + 3 ≤ sizeLine; decide), fun l3 n3 => ?_⟩
    rw [← eL3]
    have sm3 := sm2.trans (sb3.trans (same_upd (o := HO.lst L3) n3))
    have hk3 : (upd (upd H2 b3 (.lst [.bl (decide (9 = i)), .bl (decide (10 = i)), .bl (decide (11 = i))])) l3 (.lst L3)) l3 = some (.lst L3) := upd_same
    generalize (upd (upd H2 b3 (.lst [.bl (decide (9 = i)), .bl (decide (10 = i)), .bl (decide (11 = i))])) l3 (.lst L3)) = H3 at hk3 sm3
    refine ⟨_, rfl, _, rfl, .ref (c 12), .ref (c 12), _, rfl, (fun _ r => r), e15.is 12 (by decide), _, rfl, .ref (c 13), .ref (c 13), _, rfl, (fun _ r => r), e15.is 13 (by decide), _, rfl, .ref (c 14), .ref (c 14), _, rfl, (fun _ r => r), e15.is 14 (by decide), (by show 3 ≤ sizeLine; decide), fun b4 nb4 => ?_⟩
    obtain ⟨L4, eL4⟩ : ∃ L : List V, L = L3 ++ [.bl (decide (12 = i)), .bl (decide (13 = i)), .bl (decide (14 = i))] := ⟨_, rfl⟩
    have sb4 := same_upd (o := HO.lst [.bl (decide (12 = i)), .bl (decide (13 = i)), .bl (decide (14 = i))]) nb4
    refine ⟨l3, b4, _, _, rfl, rfl, sb4 _ _ hk3, upd_same, (by rw [eL3, eL2, eL1]; show 12 + 3 ≤ sizeLine; decide), fun l4 n4 => ?_⟩
    rw [← eL4]
    have sm4 := sm3.trans (sb4.trans (same_upd (o := HO.lst L4) n4))
    have hk4 : (upd (upd H3 b4 (.lst [.bl (decide (12 = i)), .bl (decide (13 = i)), .bl (decide (14 = i))])) l4 (.lst L4)) l4 = some (.lst L4) := upd_same
    generalize (upd (upd H3 b4 (.lst [.bl (decide (12 = i)), .bl (decide (13 = i)), .bl (decide (14 = i))])) l4 (.lst L4)) = H4 at hk4 sm4
    have hk : H4 l4 = some (.lst (kindsL i)) := by rw [hk4, eL4, eL3, eL2, eL1]; rfl
    clear hk4 hk3 hk2 hk1 hk0
    refine ⟨_, rfl, .inl ⟨rfl, _, SqL.of hk⟩, l4, _, .bl true, .bool true, _, rfl, rfl, SqL.of hk, kinds_dp i, .bl true, kinds_plain i, rfl, by decide, ?_⟩
    rw [kinds_count i e15.lt]
    refine ⟨rfl, _, rfl, iteF ⟨_, rfl, .ty "ValueError", .type "ValueError", _, rfl, (fun _ r => r), e15.ve, _, rfl, iteF ?_⟩⟩
    refine ⟨(by show 10 ≤ sizeLine; decide), fun m1 nm1 => ?_⟩
    have st1 := same_upd (o := HO.lst ((eNames.take 10).map V.str)) nm1
    refine ⟨_, rfl, (by show 5 ≤ sizeLine; decide), fun m2 nm2 => ?_⟩
    have st2 := same_upd (o := HO.lst ((eNames.drop 10).map V.str)) nm2
    refine ⟨m1, m2, _, _, rfl, rfl, st2 _ _ upd_same, upd_same, (by show 10 + 5 ≤ sizeLine; decide), fun m3 nm3 => ?_⟩
    have st3 := same_upd (o := HO.lst (eNames.map V.str)) nm3
    have hkm := (st1.trans (st2.trans st3)) _ _ hk
    obtain ⟨p1, p2, p3, p4⟩ := eName_plain i hi
    refine ⟨_, rfl, .inl ⟨rfl, _, SqL.of hkm⟩, l4, _, .bl true, i, .bl (decide (i = i)), rfl, rfl, SqL.of hkm, rfl, kinds_flat i, kinds_at e15.lt, by simp [eqV], fun m z hm hz2 => ?_, m3, eNames.map V.str, (i : Nat), _, rfl, rfl, SqL.of upd_same, atI_nat (eName_at e15.lt), ?_⟩
    · rw [kinds_at (by omega)] at hz2
      obtain rfl := Option.some.inj hz2
      rw [decide_eq_false (by omega)]
      rfl
    refine ⟨_, rfl, rfl, _, rfl, ?_⟩
    rw [decide_eq_false fun z => p1 (V.str.inj z)]
    refine iteF ⟨_, rfl, rfl, _, rfl, ?_⟩
    rw [decide_eq_false fun z => p2 (V.str.inj z)]
    refine iteF ⟨_, rfl, _, rfl, (by show 2 ≤ sizeLine; decide), fun m4 nm4 => ⟨m4, _, rfl, .inl (SqL.of upd_same), rfl, rfl, _, rfl, ?_⟩⟩
    have ev : inV (.str (eName i)) [.str "code", .str "operation"] = false := by
      unfold inV
      rw [List.any_cons, List.any_cons, List.any_nil]
      show ((("code" : Str) == eName i) || ((("operation" : Str) == eName i) || false)) = false
      rw [beq_eq_false_iff_ne.mpr (Ne.symm p3), beq_eq_false_iff_ne.mpr (Ne.symm p4)]
      rfl
    rw [ev]
    have st4 := same_upd (o := HO.lst [.str "code", .str "operation"]) nm4
    exact iteF ⟨(by show 2 ≤ sizeLine; decide), fun u nu => hq u _ (sm4.trans (st1.trans (st2.trans (st3.trans (st4.trans (same_upd nu)))))) upd_same⟩
  · refine ⟨fun cls d H' => ∃ D i, cls = .ref D ∧ d = none ∧ Err15 X.K CP c D i ∧ i < 11 ∧ ∀ u H'', Same H' H'' → H'' u = some (.tup [.str (eName i), .int 0]) → Q (.ref u) H'', fun cls d σ' H' hx => ?_, rfl, h⟩
    obtain ⟨D, i, rfl, rfl, e15, hi, hq⟩ := hx
    exact ⟨true, e15.ex, fun _ a _ => ⟨D, i, rfl, rfl, e15, hi, ⟨_, rfl⟩, hq⟩, fun z => by cases z⟩
theorem err_gives {q : Str} {g CP : Addr} {cdg : Value} {c : Nat → Addr} {k : Nat} (M : ErrM X.mg CP c) (B : Blt X.mg) (hr : Room (k + 2) X.A) :
    GivesTo X N_l_error_of "_law_error_of" (defScope s_l_error_of) g cdg (defBody s_l_error_of) "_law_call" q (TTerr X.K CP c) := by
  intro f c' s H Q tl act hc h
  exact err_core M B hr (tl := fun E HZ Q' => HZ c' = some (CodeO c' q) ∧ tl E HZ Q') (fun W pn xe E p1 p2 tk hW => act W pn xe E p1 p2 tk hW) ⟨hc, h⟩
end
/-! ### what the end tells of the error classes -/
section
variable {K : PySem.W.Frag}
theorem kit_mk {t c : Addr} {b : Bool} (h1 : PySem.W.isClsIn K c = true) (h2 : PySem.W.typeIn K (.ref c) = some (.type "type")) (h3 : PySem.W.subIn K (.ref t) (.ref c) = some b) (h4 : b = true ∨ t ≠ c) : PySem.W.kitOne K (.ref t) (.ref c) = some b := by
  unfold PySem.W.kitOne
  by_cases e : (Value.ref t == Value.ref c) = true
  · rw [if_pos e]
    rcases h4 with z | z
    · rw [z]
    · exact absurd (by simpa using e) z
  · rw [if_neg e]
    have e2 : ((PySem.W.clsIn K c).isSome && PySem.W.typeIn K (.ref c) == some (.type "type")) = true := by
      have h1' : (PySem.W.clsIn K c).isSome = true := h1
      rw [h1', h2] <;> rfl
    show (if ((PySem.W.clsIn K c).isSome && PySem.W.typeIn K (.ref c) == some (.type "type")) = true then PySem.W.subIn K (.ref t) (.ref c) else none) = some b
    rw [if_pos e2]
    exact h3
theorem kit_ve {t : Addr} (h : PySem.W.subIn K (.ref t) (.type "ValueError") = some true) : PySem.W.kitOne K (.ref t) (.type "ValueError") = some true := by
  unfold PySem.W.kitOne
  rw [if_neg (by simp)]
  show (if PySem.W.kitMeta "ValueError" = true then PySem.W.subIn K (.ref t) (.type "ValueError") else none) = some true
  rw [if_pos (by decide +kernel)]
  exact h
theorem exm_mk {t c : Addr} (h0 : PySem.W.subIn K (.ref c) (.type "BaseException") = some true) (h1 : PySem.W.isClsIn K c = true) (h2 : PySem.W.typeIn K (.ref c) = some (.type "type")) (h3 : PySem.W.subIn K (.ref t) (.ref c) = some true) : PySem.W.exmOne K (.ref t) (.ref c) = some true := by
  have e1 : (PySem.W.subIn K (.ref c) (.type "BaseException") == some true) = true := by rw [h0] <;> rfl
  have e2 : ((PySem.W.clsIn K c).isSome && PySem.W.typeIn K (.ref c) == some (.type "type")) = true := by
    have h1' : (PySem.W.clsIn K c).isSome = true := h1
    rw [h1', h2] <;> rfl
  show (if (PySem.W.subIn K (.ref c) (.type "BaseException") == some true) = true then (if ((PySem.W.clsIn K c).isSome && PySem.W.typeIn K (.ref c) == some (.type "type")) = true then PySem.W.subIn K (.ref t) (.ref c) else none) else none) = some true
  rw [if_pos e1, if_pos e2]
  exact h3
theorem err15_mk {CP D : Addr} {c : Nat → Addr} {i : Nat} (lt : i < 15) (cl : ExcC K D) (ex : PySem.W.exmOne K (.ref D) (.ref CP) = some true) (ve : PySem.W.subIn K (.ref D) (.type "ValueError") = some true) (self : c i = D)
    (h : ∀ j, j < 15 → PySem.W.isClsIn K (c j) = true ∧ PySem.W.typeIn K (.ref (c j)) = some (.type "type") ∧ PySem.W.subIn K (.ref D) (.ref (c j)) = some (decide (j = i))) : Err15 K CP c D i := by
  refine ⟨lt, cl, ex, fun j hj => ?_, kit_ve ve⟩
  obtain ⟨h1, h2, h3⟩ := h j hj
  refine kit_mk h1 h2 h3 ?_
  by_cases e : j = i
  · exact .inl (decide_eq_true e)
  · refine .inr fun z => ?_
    obtain ⟨_, _, g⟩ := h i lt
    rw [self, decide_eq_true rfl] at g
    rw [← z, decide_eq_false e, g] at h3
    cases h3
end
/-! ### the law's helper: every kind of error -/
section
open LamX
variable {X : Cx} {C : Addr}
/-- isinstance of the error that a suite holds, its fields known or none -/
def rIsEd (K : PySem.W.Frag) (D a : Addr) (d : Option Addr) : List V → Hp → VK → Prop := fun xs H Q => ∃ (c : V) (cv : Value) (b : Bool), xs = [.ref a, c] ∧ (∀ u, L2.RelV c u → u = cv) ∧ PySem.W.kitOne K (.ref D) cv = some b ∧ (∀ dd, d = some dd → ∃ fs, H dd = some (.xd fs)) ∧ Q (.bl b) H
theorem call_isEd {X : Cx} {a D : Addr} {oe : Obj} {d : Option Addr} {pn : List (Addr × Obj)} (C : ExcC X.K D) (hz : Zc (.ref D) d oe) (hf : ∃ vs, oe.data = .fields vs) : CallR (X.suite a ((a, oe) :: pn)) (.builtin "isinstance") (rIsEd X.K D a d) := by
  intro pins s σ H xs us Q I r h
  obtain ⟨c, cv, b, rfl, hcv, e, hd, q⟩ := h
  cases r with
  | cons rx rr =>
    cases rr with
    | cons rt rr =>
      cases rr
      cases rx
      have ec := hcv _ rt
      subst ec
      obtain ⟨hget, _⟩ := I.pin (a, oe) (List.mem_append.mpr (.inl List.mem_cons_self))
      obtain ⟨vs, hv⟩ := hf
      obtain ⟨od, J⟩ : ∃ od, PySem.W.InstAt s.heap a oe D od := by
        obtain ⟨oc, odx, oda, osl⟩ := oe
        obtain ⟨h1, h2⟩ := hz
        dsimp only at h1 h2 hv
        subst h1 h2 hv
        cases odx with
        | none => exact ⟨none, hget, rfl, rfl, trivial⟩
        | some dd =>
          obtain ⟨fs, hx⟩ := hd dd rfl
          obtain ⟨o, ho⟩ : ∃ o, s.heap.get? dd = some o := by
            obtain ⟨mA, ⟨o, _, _, e', _⟩, _⟩ := I.hok dd _ hx
            exact ⟨o, e'⟩
          exact ⟨some o, hget, rfl, rfl, ho⟩
      exact PySem.W.kia_one (PySem.W.kitx_exc (by obtain ⟨cd, hc, _⟩ := PySem.W.any_some C.hd; rw [hc]; rfl) C.hg C.hk C.hs C.ha C.hn C.ht C.hm) I.kIn J e (fun z => nomatch z) fun tk => ⟨.bl b, H, I.kept (t' := tk) fun _ _ z => z, rfl, q⟩
/-- what the helper's answer is for an error that flies -/
def ErrE (K : PySem.W.Frag) (CP : Addr) (c : Nat → Addr) (cls : Value) (d : Option Addr) (H' : Hp) (Q : VK) : Prop := ∃ D i, cls = .ref D ∧ Err15 K CP c D i ∧
  ((d = none ∧ i < 11 ∧ ∀ u H'', Same H' H'' → H'' u = some (.tup [.str (eName i), .int 0]) → Q (.ref u) H'') ∨
   (i = 11 ∧ XfC K D ∧ PySem.W.findIn K (.ref D) "part" = some none ∧ PySem.W.findIn K (.ref D) "index" = some none ∧ ∃ (dd : Addr) (part : Str) (n : Nat), d = some dd ∧ H' dd = some (.xd [("index", .int n), ("part", .str part)]) ∧ ∀ u v H'', Same H' H'' → H'' v = some (.tup [.str part, .int n]) → H'' u = some (.tup [.str "net", .ref v]) → Q (.ref u) H'') ∨
   (i = 12 ∧ XfC K D ∧ PySem.W.findIn K (.ref D) "line" = some none ∧ ∃ (dd : Addr) (n : Nat), d = some dd ∧ H' dd = some (.xd [("line", .int n)]) ∧ ∀ u H'', Same H' H'' → H'' u = some (.tup [.str "text", .int n]) → Q (.ref u) H'') ∨
   ((i = 13 ∨ i = 14) ∧ XfC K D ∧ PySem.W.findIn K (.ref D) "place" = some none ∧ ∃ (dd : Addr) (n : Nat), d = some dd ∧ H' dd = some (.xd [("place", .int n)]) ∧ ∀ u H'', Same H' H'' → H'' u = some (.tup [.str (eName i), .int n]) → Q (.ref u) H''))
def TTerrE (K : PySem.W.Frag) (CP : Addr) (c : Nat → Addr) : (XK → Hp → VK → Prop) → Hp → VK → Prop := fun tl H Q => tl (fun cls d H' => ErrE K CP c cls d H' Q) H fun _ H' => Q .non H'
set_option maxHeartbeats 0 in
theorem err_coreE {g CP : Addr} {cdg : Value} {c : Nat → Addr} {k : Nat} (M : ErrM X.mg CP c) (B : Blt X.mg) (hr : Room (k + 2) X.A) {f : Addr} {s : Shared} {H : Hp} {Q : VK} {tl : XK → Hp → VK → Prop}
    (act : ∀ (W : WX) (pn : List (Addr × Obj)) (xe : Value → Shared → Prop) (E : XK) (p1 p2 : Pos), L2.Takes ((cxOf C8.CX0 X.prog X.w X.K X.mg X.base N_l_error_of "_law_error_of" (defScope s_l_error_of) g cdg X.A X.stack s H C8.E0).tr pn xe) W → (∀ cls d σ' H', E cls d H' → W cls d σ' H') →
      PE ((cxOf C8.CX0 X.prog X.w X.K X.mg X.base N_l_error_of "_law_error_of" (defScope s_l_error_of) g cdg X.A X.stack s H C8.E0).tr pn xe) (.Call (.Name "_law_call" p1) [] [] p2) (fun σZ HZ Q => σZ[0]? = some (some (.ref f)) ∧ tl E HZ Q)) (h : TTerrE X.K CP c tl H Q) :
    ∃ t, PSs (cxOf C8.CX0 X.prog X.w X.K X.mg X.base N_l_error_of "_law_error_of" (defScope s_l_error_of) g cdg X.A X.stack s H C8.E0).nox (defBody s_l_error_of) t ∧ t { nx := fun _ H' => Q .non H', rt := Q } (L2.start N_l_error_of [.ref f]) H := by
  have hu : (X.A.deeper (PyProof.Rows.envOfC "_law_error_of" (defScope s_l_error_of) s.heap.objs.size g cdg)).units + 65 < cLine := by
    have := (hr.deeper (PyProof.Rows.envOfC "_law_error_of" (defScope s_l_error_of) s.heap.objs.size g cdg)).un
    omega
  refine ⟨_, pss_cons (ps_try_as (X := (cxOf C8.CX0 X.prog X.w X.K X.mg X.base N_l_error_of "_law_error_of" (defScope s_l_error_of) g cdg X.A X.stack s H C8.E0).nox) (c := .ref CP) (i := 1)
      (tb := fun W D σ H => ∃ Ech : XK, (∀ cls d σ' H', Ech cls d H' → W cls d σ' H') ∧ σ[0]? = some (some (.ref f)) ∧ tl Ech H (fun _ H' => D.nx σ H'))
      (ts := fun a cls d Dn σ H => ErrE X.K CP c cls d H Dn.rt ∧ ∃ σ0 : L2.St, σ = σ0.set 1 (some (.ref a)))
      rfl rfl sc_l_error_of.nd rfl rfl ⟨rfl, by decide, .inl M.gp⟩ L2.takes0 (fun W pn xe tk _ => ?_) (fun a oe cls d pn hz hf => ?_)) (pss_one (ps_ret pe_non)), ?_⟩
  · refine ⟨fun pins s' σ H' D I h' => ?_⟩
    obtain ⟨Ech, hW, h1, h3⟩ := h'
    refine PSs.run (pss_one (ps_expr (act W pn xe Ech _ _ tk hW))) pins s' σ H' D I ⟨h1, h3⟩
  · refine ⟨fun pins s' σ H' Dn I' h' => ?_⟩
    obtain ⟨⟨D, i, rfl, e15, hq⟩, σ0, rfl⟩ := h'
    have hlen : (σ0.set 1 (some (V.ref a))).length = 5 := I'.len
    rw [List.length_set] at hlen
    obtain ⟨y0, y1, y2, y3, y4, rfl⟩ : ∃ y0 y1 y2 y3 y4, σ0 = [y0, y1, y2, y3, y4] := by
      match σ0, hlen with
      | [y0, y1, y2, y3, y4], _ => exact ⟨_, _, _, _, _, rfl⟩
    let Z : Cx := (cxOf C8.CX0 X.prog X.w X.K X.mg X.base N_l_error_of "_law_error_of" (defScope s_l_error_of) g cdg X.A X.stack s H C8.E0).nox
    have xfE : ∀ n : Str, ∃ t : TE, (∀ p1 p2, PE (Z.suite a ((a, oe) :: pn)) (.Attribute (.Name "e" p1) n p2) t) ∧ (XfC X.K D → PySem.W.findIn X.K (.ref D) n = some none → t = tXf a (.ref D) d D n (tVar 1)) := fun n => by
      by_cases hx : XfC X.K D ∧ PySem.W.findIn X.K (.ref D) n = some none
      · exact ⟨_, fun p1 p2 => pe_xf hx.1 hx.2 hz hf (pv 1) rfl, fun _ _ => rfl⟩
      · exact ⟨_, fun p1 p2 => pe_never, fun z1 z2 => absurd ⟨z1, z2⟩ hx⟩
    obtain ⟨tp, Pp, ep⟩ := xfE "part"
    obtain ⟨ti, Pi, ei⟩ := xfE "index"
    obtain ⟨tl2, Pl, el⟩ := xfE "line"
    obtain ⟨tc2, Pc, ec⟩ := xfE "place"
    have dk : ∀ H2, Same H' H2 → ∀ dd, d = some dd → ∃ fs, H2 dd = some (.xd fs) := fun H2 s2 dd e => by
      rcases hq with ⟨z, _⟩ | ⟨_, _, _, _, d2, _, _, z, hx, _⟩ | ⟨_, _, _, d2, _, z, hx, _⟩ | ⟨_, _, _, d2, _, z, hx, _⟩
      · rw [z] at e; cases e
      all_goals (rw [z] at e; cases e; exact ⟨_, s2 _ _ hx⟩)
    have iE := call_isEd (X := Z) (a := a) (D := D) (oe := oe) (d := d) (pn := pn) e15.cl hz hf
    refine PSs.run (X := Z.suite a ((a, oe) :: pn)) (pss_cons (ps_set (i := 2) sc_l_error_of.nd rfl (.inl rfl) (pe_lst (pa_cons (pe_callB iE (by rfl) B.isi PyProof.Rows.boot_isinstance (pa_cons (pv 1) (pa_cons (pe_glob (v := .ref (c 0)) (by rfl) M.g0 rfl) pa_nil))) (pa_cons (pe_callB iE (by rfl) B.isi PyProof.Rows.boot_isinstance (pa_cons (pv 1) (pa_cons (pe_glob (v := .ref (c 1)) (by rfl) M.g1 rfl) pa_nil))) (pa_cons (pe_callB iE (by rfl) B.isi PyProof.Rows.boot_isinstance (pa_cons (pv 1) (pa_cons (pe_glob (v := .ref (c 2)) (by rfl) M.g2 rfl) pa_nil))) pa_nil)))))
        (pss_cons (ps_set (i := 2) sc_l_error_of.nd rfl (.inl rfl) (pe_op op_cat (pv 2) (pe_lst (pa_cons (pe_callB iE (by rfl) B.isi PyProof.Rows.boot_isinstance (pa_cons (pv 1) (pa_cons (pe_glob (v := .ref (c 3)) (by rfl) M.g3 rfl) pa_nil))) (pa_cons (pe_callB iE (by rfl) B.isi PyProof.Rows.boot_isinstance (pa_cons (pv 1) (pa_cons (pe_glob (v := .ref (c 4)) (by rfl) M.g4 rfl) pa_nil))) (pa_cons (pe_callB iE (by rfl) B.isi PyProof.Rows.boot_isinstance (pa_cons (pv 1) (pa_cons (pe_glob (v := .ref (c 5)) (by rfl) M.g5 rfl) pa_nil))) pa_nil))))))
        (pss_cons (ps_set (i := 2) sc_l_error_of.nd rfl (.inl rfl) (pe_op op_cat (pv 2) (pe_lst (pa_cons (pe_callB iE (by rfl) B.isi PyProof.Rows.boot_isinstance (pa_cons (pv 1) (pa_cons (pe_glob (v := .ref (c 6)) (by rfl) M.g6 rfl) pa_nil))) (pa_cons (pe_callB iE (by rfl) B.isi PyProof.Rows.boot_isinstance (pa_cons (pv 1) (pa_cons (pe_glob (v := .ref (c 7)) (by rfl) M.g7 rfl) pa_nil))) (pa_cons (pe_callB iE (by rfl) B.isi PyProof.Rows.boot_isinstance (pa_cons (pv 1) (pa_cons (pe_glob (v := .ref (c 8)) (by rfl) M.g8 rfl) pa_nil))) pa_nil))))))
        (pss_cons (ps_set (i := 2) sc_l_error_of.nd rfl (.inl rfl) (pe_op op_cat (pv 2) (pe_lst (pa_cons (pe_callB iE (by rfl) B.isi PyProof.Rows.boot_isinstance (pa_cons (pv 1) (pa_cons (pe_glob (v := .ref (c 9)) (by rfl) M.g9 rfl) pa_nil))) (pa_cons (pe_callB iE (by rfl) B.isi PyProof.Rows.boot_isinstance (pa_cons (pv 1) (pa_cons (pe_glob (v := .ref (c 10)) (by rfl) M.g10 rfl) pa_nil))) (pa_cons (pe_callB iE (by rfl) B.isi PyProof.Rows.boot_isinstance (pa_cons (pv 1) (pa_cons (pe_glob (v := .ref (c 11)) (by rfl) M.g11 rfl) pa_nil))) pa_nil))))))
        (pss_cons (ps_set (i := 2) sc_l_error_of.nd rfl (.inl rfl) (pe_op op_cat (pv 2) (pe_lst (pa_cons (pe_callB iE (by rfl) B.isi PyProof.Rows.boot_isinstance (pa_cons (pv 1) (pa_cons (pe_glob (v := .ref (c 12)) (by rfl) M.g12 rfl) pa_nil))) (pa_cons (pe_callB iE (by rfl) B.isi PyProof.Rows.boot_isinstance (pa_cons (pv 1) (pa_cons (pe_glob (v := .ref (c 13)) (by rfl) M.g13 rfl) pa_nil))) (pa_cons (pe_callB iE (by rfl) B.isi PyProof.Rows.boot_isinstance (pa_cons (pv 1) (pa_cons (pe_glob (v := .ref (c 14)) (by rfl) M.g14 rfl) pa_nil))) pa_nil))))))
        (pss_cons (ps_if (PW.pt (pw_or (pt_cmpR op_ne (pe_bm PySem.F.plainAttrs_list PySem.F.slot_list_count PySem.F.type_list_count (mt_countD hu) (pv 2) (pa_cons pe_bl pa_nil)) pe_int (nomark _)) (pw_or1 (pt_not (pt_val (pe_callB iE (by rfl) B.isi PyProof.Rows.boot_isinstance (pa_cons (pv 1) (pa_cons (pe_bltn (v := .ty "ValueError") (by rfl) M.gv (by decide +kernel) rfl) pa_nil)))))))) (pss_one (ps_ret (pe_tup (pa_cons pe_str (pa_cons pe_int pa_nil))))) pss_nil)
        (pss_cons (ps_set (i := 3) sc_l_error_of.nd rfl (.inl rfl) (pe_lst (pa_cons pe_str (pa_cons pe_str (pa_cons pe_str (pa_cons pe_str (pa_cons pe_str (pa_cons pe_str (pa_cons pe_str (pa_cons pe_str (pa_cons pe_str (pa_cons pe_str pa_nil))))))))))))
        (pss_cons (ps_set (i := 4) sc_l_error_of.nd rfl (.inl rfl) (pe_ix ix_list (pe_op op_cat (pv 3) (pe_lst (pa_cons pe_str (pa_cons pe_str (pa_cons pe_str (pa_cons pe_str (pa_cons pe_str pa_nil))))))) (pe_bm PySem.F.plainAttrs_list PySem.F.slot_list_index PySem.F.type_list_index mt_index (pv 2) (pa_cons pe_bl pa_nil)) (fun _ _ => rfl)))
        (pss_cons (ps_if (pt_cmpR op_eq (pv 4) pe_str (nomark _)) (pss_one (ps_ret (pe_tup (pa_cons (pv 4) (pa_cons (pe_tup (pa_cons (Pp _ _) (pa_cons (Pi _ _) pa_nil))) pa_nil))))) pss_nil)
        (pss_cons (ps_if (pt_cmpR op_eq (pv 4) pe_str (nomark _)) (pss_one (ps_ret (pe_tup (pa_cons (pv 4) (pa_cons (Pl _ _) pa_nil))))) pss_nil)
        (pss_one (ps_ret (pe_tup (pa_cons (pv 4) (pa_cons (pe_ifExp (pt_cmpR op_in_seq (pv 4) (pe_lst (pa_cons pe_str (pa_cons pe_str pa_nil))) rfl) (Pc _ _) pe_int) pa_nil))))))))))))))) pins s' _ H' Dn I' ?_
    refine ⟨_, rfl, .ref (c 0), .ref (c 0), _, rfl, (fun _ r => r), e15.is 0 (by decide), (dk _ (.refl _)), _, rfl, .ref (c 1), .ref (c 1), _, rfl, (fun _ r => r), e15.is 1 (by decide), (dk _ (.refl _)), _, rfl, .ref (c 2), .ref (c 2), _, rfl, (fun _ r => r), e15.is 2 (by decide), (dk _ (.refl _)), (by show 3 ≤ sizeLine; decide), fun l0 n0 => ?_⟩
    have hk0 : (upd H' l0 (.lst [.bl (decide (0 = i)), .bl (decide (1 = i)), .bl (decide (2 = i))])) l0 = some (.lst [.bl (decide (0 = i)), .bl (decide (1 = i)), .bl (decide (2 = i))]) := upd_same
    have sm0 := same_upd (o := HO.lst [.bl (decide (0 = i)), .bl (decide (1 = i)), .bl (decide (2 = i))]) n0
    generalize (upd H' l0 (.lst [.bl (decide (0 = i)), .bl (decide (1 = i)), .bl (decide (2 = i))])) = H0 at hk0 sm0
    refine ⟨_, rfl, _, rfl, .ref (c 3), .ref (c 3), _, rfl, (fun _ r => r), e15.is 3 (by decide), (dk _ sm0), _, rfl, .ref (c 4), .ref (c 4), _, rfl, (fun _ r => r), e15.is 4 (by decide), (dk _ sm0), _, rfl, .ref (c 5), .ref (c 5), _, rfl, (fun _ r => r), e15.is 5 (by decide), (dk _ sm0), (by show 3 ≤ sizeLine; decide), fun b1 nb1 => ?_⟩
    obtain ⟨L1, eL1⟩ : ∃ L : List V, L = [.bl (decide (0 = i)), .bl (decide (1 = i)), .bl (decide (2 = i))] ++ [.bl (decide (3 = i)), .bl (decide (4 = i)), .bl (decide (5 = i))] := ⟨_, rfl⟩
    have sb1 := same_upd (o := HO.lst [.bl (decide (3 = i)), .bl (decide (4 = i)), .bl (decide (5 = i))]) nb1
    refine ⟨l0, b1, _, _, rfl, rfl, sb1 _ _ hk0, upd_same, (by show 3 + 3 ≤ sizeLine; decide), fun l1 n1 => ?_⟩
    rw [← eL1]
    have sm1 := sm0.trans (sb1.trans (same_upd (o := HO.lst L1) n1))
    have hk1 : (upd (upd H0 b1 (.lst [.bl (decide (3 = i)), .bl (decide (4 = i)), .bl (decide (5 = i))])) l1 (.lst L1)) l1 = some (.lst L1) := upd_same
    generalize (upd (upd H0 b1 (.lst [.bl (decide (3 = i)), .bl (decide (4 = i)), .bl (decide (5 = i))])) l1 (.lst L1)) = H1 at hk1 sm1
    refine ⟨_, rfl, _, rfl, .ref (c 6), .ref (c 6), _, rfl, (fun _ r => r), e15.is 6 (by decide), (dk _ sm1), _, rfl, .ref (c 7), .ref (c 7), _, rfl, (fun _ r => r), e15.is 7 (by decide), (dk _ sm1), _, rfl, .ref (c 8), .ref (c 8), _, rfl, (fun _ r => r), e15.is 8 (by decide), (dk _ sm1), (by show 3 ≤ sizeLine; decide), fun b2 nb2 => ?_⟩
    obtain ⟨L2, eL2⟩ : ∃ L : List V, L = L1 ++ [.bl (decide (6 = i)), .bl (decide (7 = i)), .bl (decide (8 = i))] := ⟨_, rfl⟩
    have sb2 := same_upd (o := HO.lst [.bl (decide (6 = i)), .bl (decide (7 = i)), .bl (decide (8 = i))]) nb2
    refine ⟨l1, b2, _, _, rfl, rfl, sb2 _ _ hk1, upd_same, (by rw [eL1]; show 6 + 3 ≤ sizeLine; decide), fun l2 n2 => ?_⟩
    rw [← eL2]
    have sm2 := sm1.trans (sb2.trans (same_upd (o := HO.lst L2) n2))
    have hk2 : (upd (upd H1 b2 (.lst [.bl (decide (6 = i)), .bl (decide (7 = i)), .bl (decide (8 = i))])) l2 (.lst L2)) l2 = some (.lst L2) := upd_same
    generalize (upd (upd H1 b2 (.lst [.bl (decide (6 = i)), .bl (decide (7 = i)), .bl (decide (8 = i))])) l2 (.lst L2)) = H2 at hk2 sm2
    refine ⟨_, rfl, _, rfl, .ref (c 9), .ref (c 9), _, rfl, (fun _ r => r), e15.is 9 (by decide), (dk _ sm2), _, rfl, .ref (c 10), .ref (c 10), _, rfl, (fun _ r => r), e15.is 10 (by decide), (dk _ sm2), _, rfl, .ref (c 11), .ref (c 11), _, rfl, (fun _ r => r), e15.is 11 (by decide), (dk _ sm2), (by show 3 ≤ sizeLine; decide), fun b3 nb3 => ?_⟩
    obtain ⟨L3, eL3⟩ : ∃ L : List V, L = L2 ++ [.bl (decide (9 = i)), .bl (decide (10 = i)), .bl (decide (11 = i))] := ⟨_, rfl⟩
    have sb3 := same_upd (o := HO.lst [.bl (decide (9 = i)), .bl (decide (10 = i)), .bl (decide (11 = i))]) nb3
    refine ⟨l2, b3, _, _, rfl, rfl, sb3 _ _ hk2, upd_same, (by rw [eL2, eL1]; show 9 + 3 ≤ sizeLine; decide), fun l3 n3 => ?_⟩
    rw [← eL3]
    have sm3 := sm2.trans (sb3.trans (same_upd (o := HO.lst L3) n3))
    have hk3 : (upd (upd H2 b3 (.lst [.bl (decide (9 = i)), .bl (decide (10 = i)), .bl (decide (11 = i))])) l3 (.lst L3)) l3 = some (.lst L3) := upd_same
    generalize (upd (upd H2 b3 (.lst [.bl (decide (9 = i)), .bl (decide (10 = i)), .bl (decide (11 = i))])) l3 (.lst L3)) = H3 at hk3 sm3
    refine ⟨_, rfl, _, rfl, .ref (c 12), .ref (c 12), _, rfl, (fun _ r => r), e15.is 12 (by decide), (dk _ sm3), _, rfl, .ref (c 13), .ref (c 13), _, rfl, (fun _ r => r), e15.is 13 (by decide), (dk _ sm3), _, rfl, .ref (c 14), .ref (c 14), _, rfl, (fun _ r => r), e15.is 14 (by decide), (dk _ sm3), (by show 3 ≤ sizeLine; decide), fun b4 nb4 => ?_⟩
    obtain ⟨L4, eL4⟩ : ∃ L : List V, L = L3 ++ [.bl (decide (12 = i)), .bl (decide (13 = i)), .bl (decide (14 = i))] := ⟨_, rfl⟩
    have sb4 := same_upd (o := HO.lst [.bl (decide (12 = i)), .bl (decide (13 = i)), .bl (decide (14 = i))]) nb4
    refine ⟨l3, b4, _, _, rfl, rfl, sb4 _ _ hk3, upd_same, (by rw [eL3, eL2, eL1]; show 12 + 3 ≤ sizeLine; decide), fun l4 n4 => ?_⟩
    rw [← eL4]
    have sm4 := sm3.trans (sb4.trans (same_upd (o := HO.lst L4) n4))
    have hk4 : (upd (upd H3 b4 (.lst [.bl (decide (12 = i)), .bl (decide (13 = i)), .bl (decide (14 = i))])) l4 (.lst L4)) l4 = some (.lst L4) := upd_same
    generalize (upd (upd H3 b4 (.lst [.bl (decide (12 = i)), .bl (decide (13 = i)), .bl (decide (14 = i))])) l4 (.lst L4)) = H4 at hk4 sm4
    have hk : H4 l4 = some (.lst (kindsL i)) := by rw [hk4, eL4, eL3, eL2, eL1]; rfl
    clear hk4 hk3 hk2 hk1 hk0
    refine ⟨_, rfl, .inl ⟨rfl, _, SqL.of hk⟩, l4, _, .bl true, .bool true, _, rfl, rfl, SqL.of hk, kinds_dp i, .bl true, kinds_plain i, rfl, by decide, ?_⟩
    rw [kinds_count i e15.lt]
    refine ⟨rfl, _, rfl, iteF ⟨_, rfl, .ty "ValueError", .type "ValueError", _, rfl, (fun _ r => r), e15.ve, (dk _ sm4), _, rfl, iteF ?_⟩⟩
    refine ⟨(by show 10 ≤ sizeLine; decide), fun m1 nm1 => ?_⟩
    have st1 := same_upd (o := HO.lst ((eNames.take 10).map V.str)) nm1
    refine ⟨_, rfl, (by show 5 ≤ sizeLine; decide), fun m2 nm2 => ?_⟩
    have st2 := same_upd (o := HO.lst ((eNames.drop 10).map V.str)) nm2
    refine ⟨m1, m2, _, _, rfl, rfl, st2 _ _ upd_same, upd_same, (by show 10 + 5 ≤ sizeLine; decide), fun m3 nm3 => ?_⟩
    have st3 := same_upd (o := HO.lst (eNames.map V.str)) nm3
    have hkm := (st1.trans (st2.trans st3)) _ _ hk
    refine ⟨_, rfl, .inl ⟨rfl, _, SqL.of hkm⟩, l4, _, .bl true, i, .bl (decide (i = i)), rfl, rfl, SqL.of hkm, rfl, kinds_flat i, kinds_at e15.lt, by simp [eqV], fun m z hm hz2 => ?_, m3, eNames.map V.str, (i : Nat), _, rfl, rfl, SqL.of upd_same, atI_nat (eName_at e15.lt), ?_⟩
    · rw [kinds_at (by omega)] at hz2
      obtain rfl := Option.some.inj hz2
      rw [decide_eq_false (by omega)]
      rfl
    have sA := sm4.trans (st1.trans (st2.trans st3))
    rcases hq with ⟨rfl, hi, hq⟩ | ⟨rfl, xc, f1, f2, dd, part, n, rfl, hx, hq⟩ | ⟨rfl, xc, f1, dd, n, rfl, hx, hq⟩ | ⟨hi, xc, f1, dd, n, rfl, hx, hq⟩
    · obtain ⟨p1, p2, p3, p4⟩ := eName_plain i hi
      refine ⟨_, rfl, rfl, _, rfl, ?_⟩
      rw [decide_eq_false fun z => p1 (V.str.inj z)]
      refine iteF ⟨_, rfl, rfl, _, rfl, ?_⟩
      rw [decide_eq_false fun z => p2 (V.str.inj z)]
      refine iteF ⟨_, rfl, _, rfl, (by show 2 ≤ sizeLine; decide), fun m4 nm4 => ⟨m4, _, rfl, .inl (SqL.of upd_same), rfl, rfl, _, rfl, ?_⟩⟩
      have ev : inV (.str (eName i)) [.str "code", .str "operation"] = false := by
        unfold inV
        rw [List.any_cons, List.any_cons, List.any_nil]
        show ((("code" : Str) == eName i) || ((("operation" : Str) == eName i) || false)) = false
        rw [beq_eq_false_iff_ne.mpr (Ne.symm p3), beq_eq_false_iff_ne.mpr (Ne.symm p4)]
        rfl
      rw [ev]
      have st4 := same_upd (o := HO.lst [.str "code", .str "operation"]) nm4
      exact iteF ⟨(by show 2 ≤ sizeLine; decide), fun u nu => hq u _ (sA.trans (st4.trans (same_upd nu))) upd_same⟩
    · obtain rfl := ep xc f1
      obtain rfl := ei xc f2
      have hx9 := sA _ _ hx
      refine ⟨_, rfl, rfl, true, congrArg V.bl (decide_eq_true rfl), iteT ?_⟩
      refine ⟨_, rfl, _, rfl, rfl, rfl, dd, _, _, rfl, hx9, rfl, _, rfl, rfl, rfl, dd, _, _, rfl, hx9, rfl, (by show 2 ≤ sizeLine; decide), fun v nv => ⟨(by show 2 ≤ sizeLine; decide), fun u nu => ?_⟩⟩
      exact hq u v _ (sA.trans ((same_upd nv).trans (same_upd nu))) (same_upd nu _ _ upd_same) upd_same
    · obtain rfl := el xc f1
      have hx9 := sA _ _ hx
      refine ⟨_, rfl, rfl, false, congrArg V.bl (decide_eq_false (by decide +kernel)), iteF ?_⟩
      refine ⟨_, rfl, rfl, true, congrArg V.bl (decide_eq_true rfl), iteT ?_⟩
      refine ⟨_, rfl, _, rfl, rfl, rfl, dd, _, _, rfl, hx9, rfl, (by show 2 ≤ sizeLine; decide), fun u nu => ?_⟩
      exact hq u _ (sA.trans (same_upd nu)) upd_same
    · obtain rfl := ec xc f1
      have hx9 := sA _ _ hx
      have q1 : eName i ≠ "net" := by rcases hi with rfl | rfl <;> decide +kernel
      have q2 : eName i ≠ "text" := by rcases hi with rfl | rfl <;> decide +kernel
      refine ⟨_, rfl, rfl, false, congrArg V.bl (decide_eq_false fun z => q1 (V.str.inj z)), iteF ?_⟩
      refine ⟨_, rfl, rfl, false, congrArg V.bl (decide_eq_false fun z => q2 (V.str.inj z)), iteF ?_⟩
      refine ⟨_, rfl, _, rfl, (by show 2 ≤ sizeLine; decide), fun m4 nm4 => ⟨m4, _, rfl, .inl (SqL.of upd_same), rfl, rfl, _, rfl, ?_⟩⟩
      have st4 := same_upd (o := HO.lst [.str "code", .str "operation"]) nm4
      have ev : inV (.str (eName i)) [.str "code", .str "operation"] = true := by rcases hi with rfl | rfl <;> decide +kernel
      rw [ev]
      refine iteT ⟨_, rfl, rfl, rfl, dd, _, _, rfl, st4 _ _ hx9, rfl, (by show 2 ≤ sizeLine; decide), fun u nu => ?_⟩
      exact hq u _ (sA.trans (st4.trans (same_upd nu))) upd_same
  · refine ⟨fun cls d H' => ErrE X.K CP c cls d H' Q, fun cls d σ' H' hx => ?_, rfl, h⟩
    obtain ⟨D, i, rfl, e15, hq⟩ := hx
    exact ⟨true, e15.ex, fun _ a _ => ⟨⟨D, i, rfl, e15, hq⟩, _, rfl⟩, fun z => by cases z⟩
theorem err_givesE {q : Str} {g CP : Addr} {cdg : Value} {c : Nat → Addr} {k : Nat} (M : ErrM X.mg CP c) (B : Blt X.mg) (hr : Room (k + 2) X.A) :
    GivesTo X N_l_error_of "_law_error_of" (defScope s_l_error_of) g cdg (defBody s_l_error_of) "_law_call" q (TTerrE X.K CP c) := by
  intro f c' s H Q tl act hc h
  exact err_coreE M B hr (tl := fun E HZ Q' => HZ c' = some (CodeO c' q) ∧ tl E HZ Q') (fun W pn xe E p1 p2 tk hW => act W pn xe E p1 p2 tk hW) ⟨hc, h⟩
end
/-! ### the errors as data -/
def errD2 (i : Nat) : PyData := .tuple [.str (eName i), .int 0]
theorem errD2_shaped : ∀ i, i < 15 → PySem.SeqAt.shaped (errD2 i) = true := by decide +kernel
theorem eqv_selfN {d : PyData} (h : PySem.SeqAt.shaped d = true) : (!PyData.eqv d d) = false := by rw [PySem.SeqAt.eqv_refl _ (PySem.SeqAt.canLay_of_shaped h)]; rfl
/-! ### orders as data -/
def odD (o : Od) : PyData := .tuple [.int o.s, .int o.t, .int o.f, .int o.n, .int o.e]
theorem od_dp {K : PySem.W.Frag} {H : Hp} {v : V} {o : Od} (h : OrdAt H v o) : Dp K H v (odD o) := by
  obtain ⟨u, rfl, hu⟩ := h
  exact .tup (SqT.of hu) (.cons (.int _) (.cons (.int _) (.cons (.int _) (.cons (.int _) (.cons (.int _) .nil)))))
theorem ints_flat (l : List Nat) : (nints l).all flatV = true := by
  unfold nints
  rw [List.all_eq_true]
  intro v hv
  obtain ⟨n, _, rfl⟩ := List.mem_map.mp hv
  rfl
theorem inV_ints {d : Nat} (l : List Nat) : inV (.int (d : Nat)) (nints l) = decide (d ∈ l) := by
  unfold inV nints
  induction l with
  | nil => rfl
  | cons n r ih =>
    rw [List.map_cons, List.any_cons, ih]
    have e : eqV (V.int (n : Int)) (V.int (d : Int)) = decide ((n : Int) = (d : Int)) := rfl
    rw [e]
    by_cases h1 : n = d
    · subst h1
      simp
    · rw [decide_eq_false (show ¬ (n : Int) = (d : Int) by omega), Bool.false_or]
      by_cases h2 : d ∈ r
      · rw [decide_eq_true h2, decide_eq_true (List.mem_cons_of_mem _ h2)]
      · rw [decide_eq_false h2, decide_eq_false fun z => (List.mem_cons.mp z).elim (fun y => h1 y.symm) h2]
theorem ods_dp {K : PySem.W.Frag} {H : Hp} {vs : List V} {l : List Od} (h : Paired (OrdAt H) vs l) : DpAll K H vs (l.map odD) := by
  induction h with
  | nil => exact .nil
  | cons r _ ih => exact .cons (od_dp r) ih
theorem ods_depth : ∀ l : List Od, PyData.depthAll (l.map odD) ≤ 1
  | [] => by simp [PyData.depthAll]
  | s :: l => by
    have h1 := ods_depth l
    have h2 : (odD s).depth = 1 := by simp [odD, PyData.depth, PyData.depthAll]
    simp only [List.map_cons, PyData.depthAll]
    omega
theorem ods_lay : ∀ l : List Od, PyData.canLayAll0 (l.map odD) = true
  | [] => by simp [PyData.canLayAll0]
  | s :: l => by
    have h : (odD s).canLay0 = true := by simp [odD, PyData.canLay0, PyData.canLayAll0]
    simp [PyData.canLayAll0, h, ods_lay l]
theorem ods_shaped (l : List Od) : PySem.SeqAt.shaped (.tuple (l.map odD)) = true := by
  have h1 := ods_depth l
  show (PyData.canLay0 (.tuple (l.map odD)) && decide (PyData.depth (.tuple (l.map odD)) ≤ 64)) = true
  rw [Bool.and_eq_true]
  refine ⟨by simp only [PyData.canLay0]; exact ods_lay l, decide_eq_true ?_⟩
  simp only [PyData.depth]
  omega
theorem od_shaped (o : Od) : PySem.SeqAt.shaped (odD o) = true := by
  show ((odD o).canLay0 && decide ((odD o).depth ≤ 64)) = true
  rw [Bool.and_eq_true]
  refine ⟨by simp [odD, PyData.canLay0, PyData.canLayAll0], decide_eq_true ?_⟩
  have h2 : (odD o).depth = 1 := by simp [odD, PyData.depth, PyData.depthAll]
  omega
theorem od_self (o : Od) : PyData.eqv (odD o) (odD o) = true := PySem.SeqAt.eqv_refl _ (PySem.SeqAt.canLay_of_shaped (od_shaped o))
/-! ### what is no tuple -/
inductive NoTup (H : Hp) : V → Prop where
  | non : NoTup H .non
  | int {i : Int} : NoTup H (.int i)
  | bl {b : Bool} : NoTup H (.bl b)
  | str {s : Str} : NoTup H (.str s)
  | lst {a : Addr} {xs : List V} (e : H a = some (.lst xs)) : NoTup H (.ref a)
theorem NoTup.keepL {H H' : Hp} {v : V} (n : NoTup H v) (k : ∀ a xs, H a = some (.lst xs) → H' a = some (.lst xs)) : NoTup H' v := by
  cases n with
  | non => exact .non
  | int => exact .int
  | bl => exact .bl
  | str => exact .str
  | lst e => exact .lst (k _ _ e)
theorem NoTup.ty {K : PySem.W.Frag} {H : Hp} {v : V} (n : NoTup H v) : ∃ t, TyX K H v (.type t) ∧ kitB t "tuple" = some false := by
  cases n with
  | non => exact ⟨"NoneType", .base .non, by decide +kernel⟩
  | int => exact ⟨"int", .base (.int _), by decide +kernel⟩
  | bl => exact ⟨"bool", .base (.bl _), by decide +kernel⟩
  | str => exact ⟨"str", .base (.str _), by decide +kernel⟩
  | lst e => exact ⟨"list", .base (.lst e), by decide +kernel⟩
/-! ### values of which it is known what kind they are of -/
inductive KnT (H : Hp) : V → Prop where
  | int {i : Int} : KnT H (.int i)
  | non : KnT H .non
  | bl {b : Bool} : KnT H (.bl b)
  | str {s : Str} : KnT H (.str s)
  | tup {a : Addr} {xs : List V} (h : H a = some (.tup xs)) : KnT H (.ref a)
theorem KnT.keep {H H' : Hp} {v : V} (h : KnT H v) (k : TupKeep H H') : KnT H' v := by
  cases h with
  | int => exact .int
  | non => exact .non
  | bl => exact .bl
  | str => exact .str
  | tup h => exact .tup (k _ _ h)
theorem KnT.kn {K : PySem.W.Frag} {H : Hp} {v : V} (h : KnT H v) : Kn K H v := by
  cases h with
  | int => exact .int
  | non => exact .inr ⟨.inr ⟨"NoneType", .base .non, by decide +kernel⟩, fun i z => by cases z⟩
  | bl => exact .inr ⟨.inl ⟨_, rfl⟩, fun i z => by cases z⟩
  | str => exact .inr ⟨.inr ⟨"str", .base (.str _), by decide +kernel⟩, fun i z => by cases z⟩
  | tup h => exact .inr ⟨.inr ⟨"tuple", .base (.tup h), by decide +kernel⟩, fun i z => by cases z⟩
theorem wN {i lo hi : Int} (c : hi < i) : withinB (.int i) lo hi = false := by
  show (decide (lo ≤ i) && decide (i ≤ hi)) = false
  rw [decide_eq_false (show ¬ i ≤ hi by omega), Bool.and_false]
theorem wZ {i lo hi : Int} (c : i < lo) : withinB (.int i) lo hi = false := by
  show (decide (lo ≤ i) && decide (i ≤ hi)) = false
  rw [decide_eq_false (show ¬ lo ≤ i by omega), Bool.false_and]
/-- a value that is no list -/
theorem KnT.noList {K : PySem.W.Frag} {H : Hp} {v : V} (n : KnT H v) : ∃ t, TyX K H v (.type t) ∧ kitB t "list" = some false := by
  cases n with
  | int => exact ⟨"int", .base (.int _), by decide +kernel⟩
  | non => exact ⟨"NoneType", .base .non, by decide +kernel⟩
  | bl => exact ⟨"bool", .base (.bl _), by decide +kernel⟩
  | str => exact ⟨"str", .base (.str _), by decide +kernel⟩
  | tup h => exact ⟨"tuple", .base (.tup h), by decide +kernel⟩
/-! ### lists said again and again -/
theorem paired_rep {α β : Type} {F : α → β → Prop} {xs : List α} {l : List β} (h : Paired F xs l) : ∀ n, Paired F (List.replicate n xs).flatten (List.replicate n l).flatten
  | 0 => .nil
  | n + 1 => by
    rw [List.replicate_succ, List.flatten_cons, List.replicate_succ, List.flatten_cons]
    exact Paired.app h (paired_rep h n)
theorem mem_rep {α : Type} {l : List α} {x : α} : ∀ {n : Nat}, x ∈ (List.replicate n l).flatten → x ∈ l
  | 0, h => by cases h
  | n + 1, h => by
    rw [List.replicate_succ, List.flatten_cons] at h
    exact (List.mem_append.mp h).elim id mem_rep
/-! ### words of texts that a law makes: plain mathematics -/
theorem lc_str {x : Str} {g : TG} {tt : TT} {te : TE} {vs : List Nat} {σ : L2.St} {H1 : Hp} {D : Addr} {Qd : Hp → Prop} (Pv : Nat → Hp → Prop) (h0 : Pv 0 (upd H1 D (.lst [])))
    (hs : ∀ i c H, x.cps[i]? = some c → Pv i H → g (.str ⟨#[c]⟩) (wipe σ vs) H fun σ2 H2 => wipe σ2 vs = wipe σ vs ∧ tt σ2 H2 fun b H3 =>
      if b = true then te σ2 H3 fun y H4 => ∃ acc, H4 D = some (.lst acc) ∧ acc.length < sizeLine ∧ Pv (i + 1) (upd H4 D (.lst (acc ++ [y]))) else Pv (i + 1) H3) (hd : ∀ H, Pv x.cps.size H → Qd H) :
    ∃ W : Nat → Nat → Hp → Prop, (∃ m, W 0 m (upd H1 D (.lst []))) ∧ ∀ i m H, W i m H →
      ((Its x).stop i H ∧ Qd H) ∨ ((Its x).go i H ∧ ∃ Nx : Hp → Prop, (∀ H', Nx H' → ∃ m', m' < m ∧ W (i + 1) m' H') ∧ ∀ v H', (Its x).yld i H v H' → g v (wipe σ vs) H' fun σ2 H2 => wipe σ2 vs = wipe σ vs ∧ tt σ2 H2 fun b H3 =>
        if b = true then te σ2 H3 fun y H4 => ∃ acc, H4 D = some (.lst acc) ∧ acc.length < sizeLine ∧ Nx (upd H4 D (.lst (acc ++ [y]))) else Nx H3) := by
  refine ⟨fun i m H => m = x.cps.size - i ∧ i ≤ x.cps.size ∧ Pv i H, ⟨x.cps.size, by simp, Nat.zero_le _, h0⟩, ?_⟩
  rintro i m H ⟨rfl, hi, p⟩
  by_cases hlt : i < x.cps.size
  · refine .inr ⟨hlt, Pv (i + 1), fun H' p' => ⟨x.cps.size - (i + 1), by omega, rfl, hlt, p'⟩, fun v H' y => ?_⟩
    obtain ⟨e, c, hc, rfl⟩ := y
    subst e
    exact hs i c _ hc p
  · have e : i = x.cps.size := by omega
    subst e
    exact .inl ⟨Nat.le_refl _, hd H p⟩
theorem listD_nil (ds : List PyData) : PyData.eqv (.list ds) (.list []) = decide (ds = []) := by
  cases ds with
  | nil => simp [PyData.eqv, PyData.eqvAll]
  | cons x r => simp [PyData.eqv, PyData.eqvAll]
def strsD (ws : List Str) : PyData := .list (ws.map PyData.str)
theorem strsD_shaped {ws : List Str} (h : ∀ w ∈ ws, PyData.strOk w = true) : PySem.SeqAt.shaped (strsD ws) = true := by
  have h1 : PyData.canLayAll0 (ws.map PyData.str) = true := by
    induction ws with
    | nil => rfl
    | cons w r ih =>
      simp [PyData.canLayAll0, PyData.canLay0, h w (List.mem_cons_self ..), ih fun z hz => h z (List.mem_cons_of_mem _ hz)]
  have h2 : PyData.depthAll (ws.map PyData.str) = 0 := by
    clear h1 h
    induction ws with
    | nil => rfl
    | cons w r ih => simp [PyData.depthAll, PyData.depth, ih]
  simp [strsD, PySem.SeqAt.shaped, PyData.canLay0, PyData.depth, h1, h2]
theorem strs_dp {K : PySem.W.Frag} {H : Hp} {a : Addr} {ws : List Str} (h : H a = some (.lst (ws.map V.str))) : Dp K H (.ref a) (strsD ws) := by
  refine .lst (SqL.of h) ?_
  clear h
  induction ws with
  | nil => exact .nil
  | cons w r ih => exact .cons (.str w) ih
/-- a sign that is no digit, as the law says it -/
def oddC (c : Nat) : Bool := !(!(Builtin.Str.occurrences "0123456789" ⟨#[c]⟩ 0 ("0123456789" : Str).length 1).isEmpty)
def oddL (l : List Nat) : List Str := (l.filter oddC).map fun c => ⟨#[c]⟩
def lawNum (w : Str) : Bool := (decide ((1 : Int) ≤ w.length) && decide ((w.length : Int) ≤ 3)) && ((oddL w.cps.toList).isEmpty && (decide (w = "0") || !decide (w.cps.toList.head? = some 48)))
def valW (w : Str) : Option Nat := if numB w = true then (PySem.intText? w).map Int.toNat else none
/-- a word that a law may write: all that is asked of it is decided -/
def wOk (w : Str) : Bool := (lawNum w == numB w) && (numB w == (valW w).isSome) && decide (w.length ≤ 10) && w.cps.toList.all (fun c => decide (33 ≤ c ∧ c < 0x110000)) && (match valW w with
  | some n => decide (PySem.intText? w = some (n : Int)) && decide (n ≤ 999) && (decide (30 < n) || decide (nT n = w))
  | none => true)
structure WG (w : Str) : Prop where
  law : lawNum w = numB w
  wk : Wk w (valW w)
  len : w.length ≤ 10
  pl : Plain w
  ok : PyData.strOk w = true
  nT : ∀ n, valW w = some n → n ≤ 30 → nT n = w
  v999 : ∀ n, valW w = some n → n ≤ 999
theorem wg_of {w : Str} (h : wOk w = true) : WG w := by
  unfold wOk at h
  simp only [Bool.and_eq_true] at h
  obtain ⟨⟨⟨⟨h1, h2⟩, h3⟩, h4⟩, h5⟩ := h
  have h1 : lawNum w = numB w := by simpa using h1
  have h2 : numB w = (valW w).isSome := by simpa using h2
  have h3 := of_decide_eq_true h3
  have h4 : ∀ c ∈ w.cps.toList, 33 ≤ c ∧ c < 0x110000 := fun c hc => of_decide_eq_true (List.all_eq_true.mp h4 c hc)
  refine ⟨h1, ⟨h2, fun n e => ?_, by omega⟩, h3, fun c hc => (h4 c hc).1, ?_, fun n e l => ?_, fun n e => ?_⟩
  · rw [e] at h5
    simp only [Bool.and_eq_true] at h5
    exact of_decide_eq_true h5.1.1
  · show w.cps.all (· < 0x110000) = true
    rw [← Array.all_toList, List.all_eq_true]
    exact fun c hc => decide_eq_true (h4 c hc).2
  · rw [e] at h5
    simp only [Bool.and_eq_true, Bool.or_eq_true] at h5
    rcases h5.2 with z | z
    · have := of_decide_eq_true z
      omega
    · exact of_decide_eq_true z
  · rw [e] at h5
    simp only [Bool.and_eq_true] at h5
    exact of_decide_eq_true h5.1.2
/-- the first words that these laws write -/
def WL : List Str := ["", "07", "5", "1000", "999", "-1", "x", "order", "net", "+1", "1.0", "0", "00", "01", "1", "2", "3", "4", "9"]
theorem wl_all : WL.all wOk = true := by decide +kernel
theorem wl {w : Str} (h : w ∈ WL) : WG w := wg_of (List.all_eq_true.mp wl_all w h)
theorem strOk_one {w : Str} (h : PyData.strOk w = true) {c : Nat} (hc : c ∈ w.cps.toList) : PyData.strOk ⟨#[c]⟩ = true := by
  have h : w.cps.all (· < 0x110000) = true := h
  rw [← Array.all_toList, List.all_eq_true] at h
  have := h c hc
  show (#[c] : Array Nat).all (· < 0x110000) = true
  rw [← Array.all_toList]
  simpa using this
theorem oddL_ok {w : Str} (h : PyData.strOk w = true) : ∀ z ∈ oddL w.cps.toList, PyData.strOk z = true := fun z hz => by
  unfold oddL at hz
  obtain ⟨c, hc, rfl⟩ := List.mem_map.mp hz
  exact strOk_one h (List.mem_filter.mp hc).1
/-- the numbers of the k-th line of a net's text, by its words -/
def rowW (k : Nat) (l : List Str) : Option (List Nat) := rowOf (if k = 0 then "net" else "order") (if k = 0 then 2 else 5) l ((l.drop 1).map valW)
def rowN (l : List Str) : List Nat := (l.drop 1).filterMap valW
theorem rowW_some {k : Nat} {l : List Str} {r : List Nat} (h : rowW k l = some r) : ∃ w ws, l = w :: ws ∧ w = (if k = 0 then ("net" : Str) else "order") ∧ ws.length = (if k = 0 then 2 else 5) ∧ (∀ z ∈ ws, (valW z).isSome = true) ∧ r = rowN l := by
  cases l with
  | nil => cases h
  | cons w ws =>
    have h : (if w = (if k = 0 then ("net" : Str) else "order") ∧ (ws.map valW).length = (if k = 0 then 2 else 5) ∧ (ws.map valW).all Option.isSome = true then some ((ws.map valW).filterMap id) else none) = some r := h
    by_cases c : w = (if k = 0 then ("net" : Str) else "order") ∧ (ws.map valW).length = (if k = 0 then 2 else 5) ∧ (ws.map valW).all Option.isSome = true
    · rw [if_pos c] at h
      obtain ⟨c1, c2, c3⟩ := c
      rw [List.length_map] at c2
      refine ⟨w, ws, rfl, c1, c2, fun z hz => ?_, ?_⟩
      · exact List.all_eq_true.mp c3 _ (List.mem_map_of_mem hz)
      · rw [← Option.some.inj h]
        show ((ws.map valW).filterMap id) = (ws.filterMap valW)
        rw [List.filterMap_map]
        rfl
    · rw [if_neg c] at h
      cases h
/-- lines of words that a law may write -/
structure LsG (Ls : List (List Str)) : Prop where
  ne : Ls ≠ []
  len : Ls.length ≤ 60
  ln : ∀ l ∈ Ls, l ≠ [] ∧ l.length ≤ 40 ∧ ∀ w ∈ l, WG w
def lineW (l : List Str) : Str := Txt.join " " l
def textW (Ls : List (List Str)) : Str := Txt.join "\n" (Ls.map lineW)
theorem LsG.line {Ls : List (List Str)} (g : LsG Ls) {l : List Str} (h : l ∈ Ls) : Txt.split (lineW l) " " = l := split_words (g.ln l h).1 fun w hw => ((g.ln l h).2.2 w hw).pl
theorem LsG.lines {Ls : List (List Str)} (g : LsG Ls) : Txt.split (textW Ls) "\n" = Ls.map lineW := by
  refine split_lines (fun z => g.ne (List.map_eq_nil_iff.mp z)) fun l hl => ?_
  obtain ⟨l', hl', rfl⟩ := List.mem_map.mp hl
  exact line_free fun w hw => ((g.ln l' hl').2.2 w hw).pl
theorem sum_le_mul {c : Nat} : ∀ {l : List Nat}, (∀ x ∈ l, x ≤ c) → l.sum ≤ l.length * c
  | [], _ => Nat.zero_le _
  | x :: r, h => by
    have h1 := h x (List.mem_cons_self ..)
    have h2 := sum_le_mul fun y hy => h y (List.mem_cons_of_mem _ hy)
    rw [List.sum_cons, List.length_cons, Nat.succ_mul]
    omega
theorem LsG.lsum {Ls : List (List Str)} (g : LsG Ls) {l : List Str} (h : l ∈ Ls) : (l.map (·.length)).sum + l.length * (" " : Str).length ≤ 440 := by
  obtain ⟨_, h2, h3⟩ := g.ln l h
  have h4 : (l.map (·.length)).sum ≤ (l.map (·.length)).length * 10 := sum_le_mul fun x hx => by
    obtain ⟨w, hw, rfl⟩ := List.mem_map.mp hx
    exact (h3 w hw).len
  rw [List.length_map] at h4
  rw [len_sp]
  omega
theorem LsG.llen {Ls : List (List Str)} (g : LsG Ls) {l : List Str} (h : l ∈ Ls) : (lineW l).length ≤ 440 := Nat.le_trans (len_join l) (g.lsum h)
theorem len_nl : ("\n" : Str).length = 1 := by decide +kernel
theorem LsG.tsum {Ls : List (List Str)} (g : LsG Ls) : ((Ls.map lineW).map (·.length)).sum + (Ls.map lineW).length * ("\n" : Str).length ≤ 30000 := by
  have h4 : ((Ls.map lineW).map (·.length)).sum ≤ ((Ls.map lineW).map (·.length)).length * 440 := sum_le_mul fun x hx => by
    obtain ⟨w, hw, rfl⟩ := List.mem_map.mp hx
    obtain ⟨l, hl, rfl⟩ := List.mem_map.mp hw
    exact g.llen hl
  rw [List.length_map, List.length_map] at h4
  have := g.len
  rw [len_nl, List.length_map]
  omega
theorem LsG.tlen {Ls : List (List Str)} (g : LsG Ls) : (textW Ls).length ≤ 30000 := Nat.le_trans (len_join _) g.tsum
theorem wks {ws : List Str} (h : ∀ w ∈ ws, WG w) : Paired Wk ws (ws.map valW) := by
  induction ws with
  | nil => exact .nil
  | cons w r ih => exact .cons (h w (List.mem_cons_self ..)).wk (ih fun z hz => h z (List.mem_cons_of_mem _ hz))
theorem LsG.lok {Ls : List (List Str)} (g : LsG Ls) {k : Nat} {l : List Str} (h : l ∈ Ls) {r : List Nat} (e : rowW k l = some r) : LineOk k (lineW l) r := by
  obtain ⟨h1, h2, h3⟩ := g.ln l h
  cases l with
  | nil => exact absurd rfl h1
  | cons w ws =>
    rw [List.length_cons] at h2
    exact ⟨w, ws, ws.map valW, Nat.le_trans (g.llen h) (by decide), g.line h, by omega, wks fun z hz => h3 z (List.mem_cons_of_mem _ hz), e⟩
theorem LsG.lbad {Ls : List (List Str)} (g : LsG Ls) {k : Nat} {l : List Str} (h : l ∈ Ls) (e : rowW k l = none) : LineBad k (lineW l) := by
  obtain ⟨h1, h2, h3⟩ := g.ln l h
  cases l with
  | nil => exact absurd rfl h1
  | cons w ws =>
    rw [List.length_cons] at h2
    exact ⟨w, ws, ws.map valW, Nat.le_trans (g.llen h) (by decide), g.line h, by omega, wks fun z hz => h3 z (List.mem_cons_of_mem _ hz), e⟩
/-- the first line that is wrong, or none -/
def FltAt (Ls : List (List Str)) : Option Nat → Prop
  | none => ∀ i l, Ls[i]? = some l → ∃ r, rowW i l = some r
  | some k => (∃ l, Ls[k]? = some l ∧ rowW k l = none) ∧ ∀ i l, i < k → Ls[i]? = some l → ∃ r, rowW i l = some r
/-! ### the law's helper, where a net refuses its parts -/
def spNetX (K : PySem.W.Frag) (N : Addr) : Sp := fun vs H Q E => ∃ (a t : Addr) (p h : Nat), vs = [.ref a] ∧ H a = some (.tup [.int p, .int h, .ref t]) ∧ ∀ H1 x, Same H H1 → spInitX K N [.ref x, .int p, .int h, .ref t] H1 Q E
section
variable {P : Program} {w : World} {K : PySem.W.Frag} {mg : Str → Option Value} {base : Heap}
theorem ok_netX {f C N fI : Addr} {fd fdI : FuncData} (F : Fun K "_law_net" "_law_net" s_l_net f fd) (M : Mk K C fI) (gC : mg "Net" = some (.ref C)) (GI : FnOk P w K mg base (L2.CX P w) 5 fI fdI P_Net_init (spInitX K N)) (bI : Binds K fdI P_Net_init []) : FnOk P w K mg base (L2.CX P w) 7 f fd P_l_net (spNetX K N) := by
  refine F.okX sc_l_net (fun vs H Q E h => ?_) (fun cdv A outer s H vs Q E hr h => ?_)
  · obtain ⟨a, t, p, h, rfl, _⟩ := h
    rfl
  · obtain ⟨a, t, p, h, rfl, ha, q⟩ := h
    refine ⟨_, pss_one (ps_ret (pe_make (E := E) M GI hr (by rfl) gC bI .nil (passes_call (takes_of rfl rfl rfl rfl) fun _ _ _ _ z => z) (pa_cons (pe_ix ix_tup (pv 0) pe_int (fun _ _ => rfl)) (pa_cons (pe_ix ix_tup (pv 0) pe_int (fun _ _ => rfl)) (pa_cons (pe_ix ix_tup (pv 0) pe_int (fun _ _ => rfl)) pa_nil))))), ?_⟩
    refine ⟨_, rfl, a, _, 0, _, rfl, rfl, SqT.of ha, atI_nat (j := 0) rfl, _, rfl, a, _, 1, _, rfl, rfl, SqT.of ha, atI_nat (j := 1) rfl, _, rfl, a, _, 2, _, rfl, rfl, SqT.of ha, atI_nat (j := 2) rfl, ?_⟩
    intro x dx nx ndx nex
    exact q _ x (same_updN (same_upd ndx) nx)
end
/-! ### parts of numbers: a net takes them, or refuses one of them -/
def odR (r : List Nat) : Od := ⟨r.getD 0 0, r.getD 1 0, r.getD 2 0, r.getD 3 0, r.getD 4 0⟩
def PartsBad (K : PySem.W.Frag) (H : Hp) (p h : Nat) (v : V) (part : Str) (i : Nat) : Prop :=
  (part = "period" ∧ i = 0 ∧ Kn K H (.int p) ∧ withinB (.int p) 1 30 = false) ∨
   (∃ p' : Nat, V.int p = .int p' ∧ 1 ≤ p' ∧ p' ≤ 30 ∧ ((part = "houses" ∧ i = 0 ∧ Kn K H (.int h) ∧ withinB (.int h) 1 10 = false) ∨ ∃ h' : Nat, V.int h = .int h' ∧ 1 ≤ h' ∧ h' ≤ 10 ∧ part = "orders" ∧ BadOrds K H p' h' v i))
theorem odR_row {r : List Nat} (h : r.length = 5) : r = [(odR r).s, (odR r).t, (odR r).f, (odR r).n, (odR r).e] := by
  match r, h with
  | [_, _, _, _, _], _ => rfl
theorem within_out {v lo hi : Nat} (h : ¬ (lo ≤ v ∧ v ≤ hi)) : withinB (.int v) lo hi = false := by
  show (decide ((lo : Int) ≤ v) && decide ((v : Int) ≤ hi)) = false
  by_cases c : lo ≤ v
  · rw [decide_eq_false (p := (v : Int) ≤ hi) (by omega), Bool.and_false]
  · rw [decide_eq_false (p := (lo : Int) ≤ v) (by omega), Bool.false_and]
theorem odOk_iff {p h : Nat} {o : Od} (hp : 1 ≤ p) (hh : 1 ≤ h) : OdOk p h o ↔ orderB p h o.vs = true := by
  refine ⟨orderB_ok, fun e => ?_⟩
  have e : (withinB (.int o.s) 0 ((h : Int) - 1) && (withinB (.int o.t) 0 ((h : Int) - 1) && (!decide (V.int o.s = V.int o.t) && (withinB (.int o.f) 0 ((p : Int) - 1) && (withinB (.int o.n) 1 p && withinB (.int o.e) 1 9))))) = true := e
  simp only [Bool.and_eq_true] at e
  obtain ⟨e1, e2, e3, e4, e5, e6⟩ := e
  have w : ∀ {v : Nat} {lo hi : Int}, withinB (.int v) lo hi = true → lo ≤ v ∧ (v : Int) ≤ hi := fun {v lo hi} z => by
    have z : (decide (lo ≤ (v : Int)) && decide ((v : Int) ≤ hi)) = true := z
    rw [Bool.and_eq_true] at z
    exact ⟨of_decide_eq_true z.1, of_decide_eq_true z.2⟩
  have a1 := w e1; have a2 := w e2; have a4 := w e4; have a5 := w e5; have a6 := w e6
  have a3 : o.s ≠ o.t := fun z => by
    rw [z, decide_eq_true rfl] at e3
    cases e3
  exact ⟨by omega, by omega, a3, by omega, by omega, by omega, by omega, by omega⟩
theorem first_bad {α : Type} (f : α → Bool) : ∀ l : List α, (∀ x ∈ l, f x = true) ∨ ∃ i x, l[i]? = some x ∧ f x = false ∧ ∀ y ∈ l.take i, f y = true
  | [] => .inl fun _ h => by cases h
  | a :: r => by
    cases e : f a with
    | false => exact .inr ⟨0, a, rfl, e, fun y h => by cases h⟩
    | true =>
      rcases first_bad f r with h | ⟨i, x, h1, h2, h3⟩
      · refine .inl fun x hx => ?_
        rcases List.mem_cons.mp hx with rfl | z
        · exact e
        · exact h x z
      · refine .inr ⟨i + 1, x, h1, h2, fun y hy => ?_⟩
        rw [List.take_succ_cons] at hy
        rcases List.mem_cons.mp hy with rfl | z
        · exact e
        · exact h3 y z
/-- numbers of a net's text: a net, or what its making refuses -/
theorem net_cases {K : PySem.W.Frag} (p h : Nat) (rows : List (List Nat)) (h5 : ∀ r ∈ rows, r.length = 5) (hl : rows.length ≤ 20) :
    NetOk p h (rows.map odR) ∨ ∃ part i, PyData.strOk part = true ∧ i ≤ 20 ∧ ∀ H t us, H t = some (.tup us) → Paired (RowTup H) us rows → PartsBad K H p h (.ref t) part i := by
  by_cases cp : 1 ≤ p ∧ p ≤ 30
  · by_cases ch : 1 ≤ h ∧ h ≤ 10
    · rcases first_bad (fun r => orderB p h (odR r).vs) rows with g | ⟨i, r, hr, hb, hg⟩
      · refine .inl ⟨cp.1, cp.2, ch.1, ch.2, by rw [List.length_map]; exact hl, fun o ho => ?_⟩
        obtain ⟨r, hr, rfl⟩ := List.mem_map.mp ho
        exact (odOk_iff cp.1 ch.1).mpr (g r hr)
      · have il : i < rows.length := (List.getElem?_eq_some_iff.mp hr).1
        refine .inr ⟨"orders", i, by decide +kernel, by omega, fun H t us ht hP => ?_⟩
        have ul := hP.length
        have key : ∀ {a : V} {r : List Nat}, RowTup H a r → r.length = 5 → H = H ∧ ∃ u, a = .ref u ∧ H u = some (.tup (odR r).vs) := fun {a r} z e => by
          obtain ⟨u, rfl, hu⟩ := z
          rw [odR_row e] at hu
          exact ⟨rfl, u, rfl, hu⟩
        refine .inr ⟨p, rfl, cp.1, cp.2, .inr ⟨h, rfl, ch.1, ch.2, rfl, .inr ⟨t, us, (rows.take i).map odR, rfl, ht, by omega, by omega, by rw [List.length_map, List.length_take]; omega, ?_, fun o ho => ?_, .inr ?_⟩⟩⟩
        · have hT := Paired.take hP i
          have h5' : ∀ r ∈ rows.take i, r.length = 5 := fun r hr => h5 r (List.mem_of_mem_take hr)
          generalize rows.take i = rs at hT h5'
          generalize us.take i = vs at hT
          induction hT with
          | nil => exact .nil
          | cons z _ ih => exact .cons (key z (h5' _ (List.mem_cons_self ..))).2 (ih fun r hr => h5' r (List.mem_cons_of_mem _ hr))
        · obtain ⟨r', hr', rfl⟩ := List.mem_map.mp ho
          exact (odOk_iff cp.1 ch.1).mpr (hg r' hr')
        · obtain ⟨v, hv, z⟩ := Paired.get? (i := i) hP hr
          obtain ⟨_, u, rfl, hu⟩ := key z (h5 r (List.mem_of_getElem? hr))
          refine ⟨_, hv, fun H' s' => .inl ⟨u, _, rfl, s' _ _ hu, fun x hx => ?_, hb.symm⟩⟩
          unfold Od.vs at hx
          simp only [List.mem_cons, List.not_mem_nil, or_false] at hx
          rcases hx with rfl | rfl | rfl | rfl | rfl <;> exact Kn.int
    · exact .inr ⟨"houses", 0, by decide +kernel, by omega, fun H t us _ _ => .inr ⟨p, rfl, cp.1, cp.2, .inl ⟨rfl, rfl, Kn.int, within_out (lo := 1) (hi := 10) ch⟩⟩⟩
  · exact .inr ⟨"period", 0, by decide +kernel, by omega, fun H t us _ _ => .inl ⟨rfl, rfl, Kn.int, within_out (lo := 1) (hi := 30) cp⟩⟩
theorem PartsBad.init {K : PySem.W.Frag} {N x : Addr} {H : Hp} {Q : VK} {E : XK} {p h : Nat} {v : V} {part : Str} {i : Nat} (b : PartsBad K H p h v part i) (q : ∀ d H', Same H H' → H' d = some (.xd (netFs part i)) → E (.ref N) (some d) H') : spInitX K N [.ref x, .int p, .int h, v] H Q E := ⟨x, _, _, _, part, i, rfl, b, q⟩
abbrev s_l_is_number : Stmt := top 37
abbrev N_l_is_number : List Str := ["_law_word", "_law_sign"]
abbrev P_l_is_number : List Str := ["_law_word"]
theorem sc_l_is_number : FnScope N_l_is_number P_l_is_number (defScope s_l_is_number) := ⟨rfl, rfl, rfl, by decide +kernel, rfl, by decide +kernel, by decide +kernel⟩
abbrev s_l_text_fault : Stmt := top 38
abbrev N_l_text_fault : List Str := ["_law_rows", "_law_k", "_law_word"]
abbrev P_l_text_fault : List Str := ["_law_rows"]
theorem sc_l_text_fault : FnScope N_l_text_fault P_l_text_fault (defScope s_l_text_fault) := ⟨rfl, rfl, rfl, by decide +kernel, rfl, by decide +kernel, by decide +kernel⟩
/-! ### the law's own reading of a word -/
def spLawNum : Sp := fun vs H Q _ => ∃ (x : Str), vs = [.str x] ∧ PyData.strOk x = true ∧ x.length ≤ 100 ∧ ∀ H', Same H H' → Q (.bl (lawNum x)) H'
section
variable {P : Program} {w : World} {K : PySem.W.Frag} {mg : Str → Option Value} {base : Heap}
theorem ok_lawnum {f : Addr} {fd : FuncData} (F : Fun K "_law_is_number" "_law_is_number" s_l_is_number f fd) (B : Blt mg) : FnOk P w K mg base CX0 2 f fd P_l_is_number spLawNum := by
  refine F.ok sc_l_is_number (fun vs H Q E h => ?_) (fun cdv A outer s H vs Q E hr h => ?_)
  · obtain ⟨x, rfl, _⟩ := h
    rfl
  · obtain ⟨x, rfl, ox, hl, q⟩ := h
    have hu : (A.deeper (PyProof.Rows.envOfC "_law_is_number" (defScope s_l_is_number) s.heap.objs.size f cdv)).units + 64 < cLine := hr.units
    refine ⟨_, pss_cons (ps_if (PW.pt (pw_or (pt_not (pt_chain op_le op_le pe_int (pe_callB call_len_str (by rfl) B.len PySem.boot_len (pa_cons (pv 0) pa_nil)) pe_int))
        (pw_or1 (pt_cmpR (op_neD hu) (pe_lc (own := [("_law_sign", 1)]) (g := gName 1) (tt := tTest (tOp (fun x y H Q => ∃ i j, x = .str i ∧ y = .str j ∧ Q (.bl (!(!(Builtin.Str.occurrences j i 0 j.length 1).isEmpty))) H) (tVar 1) (tC (.str "0123456789")))) (te := tVar 1) (by rfl) sc_l_is_number.nd (pi_str (pv 0))
          (blkOk_by (N := N_l_is_number) (sc := defScope s_l_is_number) (by decide +kernel)) (fun _ _ _ _ _ => pg_name (i := 1) sc_l_is_number.nd rfl (.inl rfl)) (fun _ _ _ _ _ => pts_one (pt_cmpR op_notIn_str (pv 1) pe_str rfl)) (fun _ _ _ _ _ => pv 1)) (pe_lst pa_nil) (nomark _))))) (pss_one (ps_ret pe_bl)) pss_nil)
      (pss_one (ps_ret (pe_or (pe_cmpR op_eq (pv 0) pe_str (nomark _)) (pe_one (pe_cmpR op_ne (pe_ix ix_str (pv 0) pe_int (fun _ _ => rfl)) pe_str (nomark _)))))), ?_⟩
    have hz : x.length ≤ sizeLine := by rw [sizeLine_eq]; omega
    have eL : lawNum x = ((decide ((1 : Int) ≤ x.length) && decide ((x.length : Int) ≤ 3)) && ((oddL x.cps.toList).isEmpty && (decide (x = "0") || !decide (x.cps.toList.head? = some 48)))) := rfl
    have no : (decide ((1 : Int) ≤ x.length) && decide ((x.length : Int) ≤ 3)) = false → ∀ H', Same H H' → Q (.bl false) H' := fun e H' s' => by
      have q' := q H' s'
      rw [eL, e, Bool.false_and] at q'
      exact q'
    refine ⟨_, rfl, x, rfl, hz, _, _, rfl, rfl, _, rfl, ?_⟩
    refine ite2 (fun e1 => ?_) (fun e1 => ?_)
    · refine ⟨_, _, rfl, rfl, _, rfl, ?_⟩
      refine ite2 (fun e2 => ?_) (fun e2 => ?_)
      · exact iteT (no (by
          have : decide ((x.length : Int) ≤ 3) = false := by simpa using e2
          rw [this, Bool.and_false]) H (.refl H))
      · have e3 : decide ((x.length : Int) ≤ 3) = true := by simpa using e2
        rw [e1, e3, Bool.true_and, Bool.true_and] at eL
        refine ⟨_, rfl, x, rfl, fun D nD => ?_⟩
        refine lc_str (x := x) (fun i H' => H' = upd H D (.lst ((oddL (x.cps.toList.take i)).map V.str))) rfl ?_ ?_
        · rintro i c H' hc rfl
          have hc' : x.cps.toList[i]? = some c := by rw [Array.getElem?_toList]; exact hc
          have il : i < x.cps.toList.length := (List.getElem?_eq_some_iff.mp hc').1
          have xl : x.cps.toList.length ≤ 100 := hl
          refine ⟨rfl, _, rfl, _, _, rfl, rfl, oddC c, rfl, ?_⟩
          have et : oddL (x.cps.toList.take (i + 1)) = oddL (x.cps.toList.take i) ++ (if oddC c = true then [⟨#[c]⟩] else []) := by
            unfold oddL
            rw [take_filter hc', List.map_append]
            by_cases z : oddC c = true <;> simp [z]
          rw [et]
          dsimp only
          by_cases z : oddC c = true
          · rw [if_pos z, if_pos z]
            refine ⟨_, rfl, _, upd_same, ?_, ?_⟩
            · rw [List.length_map]
              unfold oddL
              rw [List.length_map]
              exact small1000 (Nat.le_trans (List.length_filter_le _ _) (by rw [List.length_take]; omega))
            · rw [upd_upd, List.map_append]
              rfl
          · rw [if_neg z, if_neg z, List.append_nil]
        rintro H' rfl
        rw [List.take_of_length_le (by show x.cps.toList.length ≤ x.cps.size; simp)]
        have s1 := same_upd (o := HO.lst ((oddL x.cps.toList).map V.str)) nD
        refine ⟨(by show 0 ≤ sizeLine; decide), fun z nz => ?_⟩
        have s2 := same_upd (o := HO.lst []) nz
        have s12 := s1.trans s2
        refine ⟨_, _, strs_dp (s2 _ _ upd_same), strs_dp (ws := []) upd_same, strsD_shaped (oddL_ok ox), strsD_shaped (fun _ h => by cases h), _, rfl, ?_⟩
        rw [show PyData.eqv (strsD (oddL x.cps.toList)) (strsD []) = (oddL x.cps.toList).isEmpty from by
          show PyData.eqv (.list _) (.list []) = _
          rw [listD_nil]
          cases oddL x.cps.toList <;> simp]
        refine ite2 (fun e4 => ?_) (fun e4 => ?_)
        · have : (oddL x.cps.toList).isEmpty = false := by simpa using e4
          rw [this, Bool.false_and] at eL
          have q' := q _ s12
          rw [eL] at q'
          exact q'
        · have : (oddL x.cps.toList).isEmpty = true := by simpa using e4
          rw [this, Bool.true_and] at eL
          have q' := q _ s12
          rw [eL] at q'
          generalize (upd (upd H D (.lst ((oddL x.cps.toList).map V.str))) z (.lst [])) = H2 at q'
          have es : decide (V.str x = V.str "0") = decide (x = "0") := by
            by_cases h : x = "0"
            · rw [decide_eq_true h, decide_eq_true (by rw [h])]
            · rw [decide_eq_false h, decide_eq_false fun e => h (V.str.inj e)]
          obtain ⟨c, r, hc⟩ : ∃ c r, x.cps.toList = c :: r := by
            cases h : x.cps.toList with
            | nil =>
              have z1 := of_decide_eq_true e1
              have z2 : x.length = x.cps.toList.length := by show x.cps.size = _; simp
              rw [h] at z2
              rw [z2] at z1
              exact absurd z1 (by decide)
            | cons c r => exact ⟨c, r, rfl⟩
          refine ⟨_, rfl, rfl, _, rfl, ?_⟩
          rw [es]
          refine ite2 (fun e5 => ?_) (fun e5 => ?_)
          · rw [e5, Bool.true_or] at q'
            exact q'
          · rw [Bool.eq_false_iff.mpr e5, Bool.false_or, hc] at q'
            refine ⟨_, rfl, x, 0, c, rfl, rfl, hz, by rw [hc]; exact atI_nat (j := 0) rfl, rfl, ?_⟩
            rw [one_str]
            have e7 : decide ((c :: r).head? = some 48) = decide (c = 48) := by
              by_cases h : c = 48 <;> simp [h]
            rw [e7] at q'
            exact q'
    · exact ⟨_, rfl, iteT (no (by rw [Bool.eq_false_iff.mpr e1, Bool.false_and]) H (.refl H))⟩
end
/-! ### the first line that is wrong, as the law finds it -/
def LnAt (H : Hp) (v : V) (l : List Str) : Prop := ∃ u, v = .ref u ∧ H u = some (.lst (l.map V.str))
def LsAt (H : Hp) (a : Addr) (Ls : List (List Str)) : Prop := ∃ us, H a = some (.lst us) ∧ Paired (LnAt H) us Ls
theorem LnAt.same {H H' : Hp} (s : Same H H') {v : V} {l : List Str} (h : LnAt H v l) : LnAt H' v l := by
  obtain ⟨u, e, hu⟩ := h
  exact ⟨u, e, s _ _ hu⟩
theorem LsAt.same {H H' : Hp} (s : Same H H') {a : Addr} {Ls : List (List Str)} (h : LsAt H a Ls) : LsAt H' a Ls := by
  obtain ⟨us, e, hu⟩ := h
  exact ⟨us, s _ _ e, Paired.mapP hu fun _ _ z => z.same s⟩
theorem if0s {σ : L2.St} {H : Hp} {Q : VK} {i : Nat} {s t : Str} (h : σ[1]? = some (some (.int (i : Nat)))) (q : Q (.str (if i = 0 then s else t)) H) : tIf (tTest (tOp rEq (tVar 1) (tC (.int 0)))) (tC (.str s)) (tC (.str t)) σ H Q := by
  refine ⟨_, h, rfl, _, rfl, ?_⟩
  by_cases c : i = 0
  · rw [if_pos c] at q
    rw [c, show decide (V.int ((0 : Nat) : Int) = V.int 0) = true from decide_eq_true rfl]
    exact iteT q
  · rw [if_neg c] at q
    rw [decide_eq_false fun z => c (by have := V.int.inj z; omega)]
    exact iteF q
theorem if0i {σ : L2.St} {H : Hp} {Q : VK} {i m n : Nat} (h : σ[1]? = some (some (.int (i : Nat)))) (q : Q (.int (if i = 0 then m else n : Nat)) H) : tIf (tTest (tOp rEq (tVar 1) (tC (.int 0)))) (tC (.int (m : Nat))) (tC (.int (n : Nat))) σ H Q := by
  refine ⟨_, h, rfl, _, rfl, ?_⟩
  by_cases c : i = 0
  · rw [if_pos c] at q
    rw [c, show decide (V.int ((0 : Nat) : Int) = V.int 0) = true from decide_eq_true rfl]
    exact iteT q
  · rw [if_neg c] at q
    rw [decide_eq_false fun z => c (by have := V.int.inj z; omega)]
    exact iteF q
def optN : Option Nat → V
  | none => .non
  | some k => .int (k : Nat)
def spLawFlt : Sp := fun vs H Q _ => ∃ (a : Addr) (Ls : List (List Str)), vs = [.ref a] ∧ LsAt H a Ls ∧ LsG Ls ∧ ∀ H' o, Same H H' → FltAt Ls o → Q (optN o) H'
section
variable {P : Program} {w : World} {K : PySem.W.Frag} {mg : Str → Option Value} {base : Heap}
theorem ok_lawflt {f : Addr} {fd : FuncData} (F : Fun K "_law_text_fault" "_law_text_fault" s_l_text_fault f fd) (B : Blt mg) (DN : Df P w K mg base "_law_is_number" 2 P_l_is_number spLawNum) : FnOk P w K mg base CX0 3 f fd P_l_text_fault spLawFlt := by
  obtain ⟨fN, fdN, gN, kN, bN, GN⟩ := DN
  refine F.ok sc_l_text_fault (fun vs H Q E h => ?_) (fun cdv A outer s H vs Q E hr h => ?_)
  · obtain ⟨a, Ls, rfl, _⟩ := h
    rfl
  · obtain ⟨a, Ls, rfl, hA, g, q⟩ := h
    have hu : (A.deeper (PyProof.Rows.envOfC "_law_text_fault" (defScope s_l_text_fault) s.heap.objs.size f cdv)).units + 64 < cLine := hr.units
    obtain ⟨us, ha, hP⟩ := id hA
    have ul := hP.length
    have L60 := g.len
    refine ⟨_, pss_cons (ps_for PassesOwn.never rfl (pi_range1 rfl B.range (pa_cons (pe_callB call_len_seq (by rfl) B.len PySem.boot_len (pa_cons (pv 0) pa_nil)) pa_nil)) (pg_name (i := 1) sc_l_text_fault.nd rfl (.inl rfl))
        (pss_cons (ps_if (PW.pt (pw_or (pt_cmpR op_ne (pe_ix ix_list (pe_ix ix_list (pv 0) (pv 1) (fun _ _ => rfl)) pe_int (fun _ _ => rfl)) (pe_ifExp (pt_cmpR op_eq (pv 1) pe_int (nomark _)) pe_str pe_str) (nomark _))
            (pw_or1 (pt_cmpR op_ne (pe_callB call_len_seq (by rfl) B.len PySem.boot_len (pa_cons (pe_ix ix_list (pv 0) (pv 1) (fun _ _ => rfl)) pa_nil)) (pe_ifExp (pt_cmpR op_eq (pv 1) pe_int (nomark _)) pe_int pe_int) (nomark _))))) (pss_one (ps_ret (pv 1))) pss_nil)
        (pss_one (ps_if (pt_cmpR (op_neD hu) (pe_lc (own := [("_law_word", 2)]) (g := gName 2) (tt := tNot (tB (tCall spLawNum [] E0 (tCons (tVar 2) tNil)))) (te := tVar 2) (by rfl) sc_l_text_fault.nd (pi_list (pe_slice sl_list (pe_ix ix_list (pv 0) (pv 1) (fun _ _ => rfl)) (po_some pe_int) po_none))
          (blkOk_by (N := N_l_text_fault) (sc := defScope s_l_text_fault) (by decide +kernel)) (fun _ _ _ _ _ => pg_name (i := 2) sc_l_text_fault.nd rfl (.inl rfl)) (fun _ _ _ _ _ => pts_one (pt_not (pt_val (pe_call GN hr (by rfl) gN kN bN .nil pass0 (pa_cons (pv 2) pa_nil))))) (fun _ _ _ _ _ => pv 2)) (pe_lst pa_nil) (nomark _)) (pss_one (ps_ret (pv 1))) pss_nil))))
      (pss_one (ps_ret pe_non)), ?_⟩
    refine ⟨_, rfl, a, _, rfl, .inl (SqL.of ha), (us.length : Int), rfl, by omega, by omega, for_range (lo := 0) (n := (us.length : Int).toNat) (fun i σ H' => (∃ x1 x2, σ = [some (.ref a), x1, x2]) ∧ Same H H' ∧ ∀ j l, j < i → Ls[j]? = some l → ∃ r, rowW j l = some r) ⟨⟨_, _, rfl⟩, .refl H, fun j l hj => absurd hj (Nat.not_lt_zero j)⟩ ?_ ?_⟩
    · rintro i σ H1 hi ⟨⟨x1, x2, rfl⟩, s1, hok⟩
      rw [show (0 : Int) + (i : Int) = (i : Nat) from Int.zero_add _]
      have lt : i < Ls.length := by have : i < (us.length : Int).toNat := hi; omega
      have ei := List.getElem?_eq_getElem lt
      obtain ⟨v, hv, u, rfl, hu'⟩ := Paired.get? (i := i) hP ei
      obtain ⟨lne, l40, lw⟩ := g.ln _ (List.mem_of_getElem? ei)
      generalize Ls[i] = l at ei hu' lne l40 lw
      cases l with
      | nil => exact absurd rfl lne
      | cons w0 ws =>
      rw [List.length_cons] at l40
      have ha1 := s1 _ _ ha
      have hu1 := s1 _ _ hu'
      have bad : rowW i (w0 :: ws) = none → ∀ H', Same H H' → Q (.int (i : Nat)) H' := fun e H' s' => q H' (some i) s' ⟨⟨_, ei, e⟩, hok⟩
      have er : rowW i (w0 :: ws) = if w0 = (if i = 0 then ("net" : Str) else "order") ∧ (ws.map valW).length = (if i = 0 then 2 else 5) ∧ (ws.map valW).all Option.isSome = true then some ((ws.map valW).filterMap id) else none := rfl
      refine ⟨_, rfl, _, rfl, a, _, (i : Nat), _, rfl, rfl, SqL.of ha1, atI_nat hv, u, _, 0, _, rfl, rfl, SqL.of hu1, atI_nat (j := 0) rfl, if0s rfl ⟨rfl, _, rfl, ite2 (fun e1 => ?_) (fun e1 => ?_)⟩⟩
      · refine ⟨_, rfl, bad ?_ H1 s1⟩
        rw [er]
        refine if_neg fun z => ?_
        rw [z.1, decide_eq_true rfl] at e1
        cases e1
      have ew : w0 = (if i = 0 then ("net" : Str) else "order") := by
        by_cases z : w0 = (if i = 0 then ("net" : Str) else "order")
        · exact z
        · exact absurd (by rw [decide_eq_false fun e => z (V.str.inj e)]; rfl) e1
      refine ⟨_, rfl, _, rfl, a, _, (i : Nat), _, rfl, rfl, SqL.of ha1, atI_nat hv, u, _, rfl, .inl (SqL.of hu1), if0i (m := 3) (n := 6) rfl ⟨rfl, _, rfl, ite2 (fun e2 => ?_) (fun e2 => ?_)⟩⟩
      · refine ⟨_, rfl, bad ?_ H1 s1⟩
        rw [er]
        refine if_neg fun z => ?_
        have z2 := z.2.1
        rw [List.length_map] at z2
        rw [List.length_map, List.length_cons, z2] at e2
        by_cases c : i = 0
        · rw [if_pos c, if_pos c] at e2
          exact absurd e2 (by decide +kernel)
        · rw [if_neg c, if_neg c] at e2
          exact absurd e2 (by decide +kernel)
      have ec : (ws.map valW).length = (if i = 0 then 2 else 5) := by
        rw [List.length_map]
        rw [List.length_map, List.length_cons] at e2
        have e3 : V.int ((ws.length + 1 : Nat) : Int) = V.int ((if i = 0 then 3 else 6 : Nat) : Int) := by
          by_cases z : V.int ((ws.length + 1 : Nat) : Int) = V.int ((if i = 0 then 3 else 6 : Nat) : Int)
          · exact z
          · exact absurd (by rw [decide_eq_false z]; rfl) e2
        have e4 := V.int.inj e3
        by_cases c : i = 0
        · rw [if_pos c] at e4 ⊢
          omega
        · rw [if_neg c] at e4 ⊢
          omega
      -- its numbers
      refine ⟨_, rfl, _, rfl, a, _, (i : Nat), _, rfl, rfl, SqL.of ha1, atI_nat hv, 1, rfl, u, _, rfl, SqL.of hu1, fun cl ncl => ?_⟩
      rw [show cutV ((w0 :: ws).map V.str) (some (1 : Int)) none = ((w0 :: ws).map V.str).drop 1 from cut_from (n := 1), show ((w0 :: ws).map V.str).drop 1 = ws.map V.str from rfl]
      have s2 := same_upd (o := HO.lst (ws.map V.str)) ncl
      have hcl := (upd_same : (upd H1 cl (.lst (ws.map V.str))) cl = _)
      generalize (upd H1 cl (.lst (ws.map V.str))) = H2 at s2 hcl
      refine ⟨cl, rfl, ⟨_, SqL.of hcl⟩, fun D nD => ?_⟩
      refine lc_list (K := K) (a := cl) (xs := ws.map V.str) (fun j H' => Same H2 H' ∧ H' D = some (.lst (((ws.take j).filter fun z => !lawNum z).map V.str))) ⟨same_upd nD, upd_same⟩ (fun j H' _ ⟨s', _⟩ => SqL.of (s' _ _ hcl)) ?_ ?_
      · rintro j v H' hj ⟨s', hD⟩
        rw [List.getElem?_map] at hj
        obtain ⟨z, hz, rfl⟩ := Option.map_eq_some_iff.mp hj
        have gz := lw z (List.mem_cons_of_mem _ (List.mem_of_getElem? hz))
        refine ⟨rfl, _, rfl, z, rfl, gz.ok, Nat.le_trans gz.len (by decide), fun H3 s3 => ⟨_, rfl, ?_⟩⟩
        have hD3 := s3 _ _ hD
        rw [take_filter hz]
        dsimp only
        by_cases c : (!lawNum z) = true
        · rw [if_pos c, if_pos c]
          refine ⟨_, rfl, _, hD3, ?_, fun b o e => ?_, ?_⟩
          · rw [List.length_map]
            exact small1000 (Nat.le_trans (List.length_filter_le _ _) (by rw [List.length_take]; omega))
          · rw [upd_ne (ne_of_none e nD)]
            exact s3 _ _ (s' _ _ e)
          · rw [upd_same, List.map_append]
            rfl
        · rw [if_neg c, if_neg c, List.append_nil]
          exact ⟨s'.trans s3, hD3⟩
      rintro H' ⟨s', hD⟩
      rw [List.length_map, List.take_of_length_le (Nat.le_refl _)] at hD
      refine ⟨(by show 0 ≤ sizeLine; decide), fun z nz => ?_⟩
      have s3 := same_upd (o := HO.lst []) nz
      have s13 := s1.trans (s2.trans (s'.trans s3))
      refine ⟨_, _, strs_dp (s3 _ _ hD), strs_dp (ws := []) upd_same, strsD_shaped fun y hy => (lw y (List.mem_cons_of_mem _ (List.mem_filter.mp hy).1)).ok, strsD_shaped (fun _ h => by cases h), _, rfl, ?_⟩
      rw [show PyData.eqv (strsD (ws.filter fun z => !lawNum z)) (strsD []) = (ws.filter fun z => !lawNum z).isEmpty from by
        show PyData.eqv (.list _) (.list []) = _
        rw [listD_nil]
        cases (ws.filter fun z => !lawNum z) <;> simp]
      have eA : (ws.filter fun z => !lawNum z).isEmpty = (ws.map valW).all Option.isSome := by
        have key : ∀ l : List Str, (∀ z ∈ l, WG z) → (l.filter fun z => !lawNum z).isEmpty = (l.map valW).all Option.isSome := fun l => by
          induction l with
          | nil => exact fun _ => rfl
          | cons z r ih =>
            intro hz
            have gz := hz z (List.mem_cons_self ..)
            have e1 : lawNum z = (valW z).isSome := gz.law.trans gz.wk.num
            have ih := ih fun y hy => hz y (List.mem_cons_of_mem _ hy)
            rw [List.filter_cons, List.map_cons, List.all_cons, ← ih, e1]
            cases (valW z).isSome <;> simp
        exact key ws fun z hz => lw z (List.mem_cons_of_mem _ hz)
      rw [eA]
      refine ite2 (fun e3 => ?_) (fun e3 => ?_)
      · refine ⟨_, rfl, bad ?_ _ s13⟩
        rw [er]
        refine if_neg fun y => ?_
        rw [y.2.2] at e3
        cases e3
      · refine ⟨⟨_, _, rfl⟩, s13, fun j l hj hl => ?_⟩
        by_cases c : j = i
        · subst c
          obtain rfl := Option.some.inj (ei.symm.trans hl)
          refine ⟨_, er.trans (if_pos ⟨ew, ec, ?_⟩)⟩
          cases h : (ws.map valW).all Option.isSome with
          | true => rfl
          | false => exact absurd (by rw [h]; rfl) e3
        · exact hok j l (by omega) hl
    · rintro σ H1 ⟨_, s1, hok⟩
      refine q H1 none s1 fun j l hj => hok j l ?_ hj
      have := (List.getElem?_eq_some_iff.mp hj).1
      show j < (us.length : Int).toNat
      omega
end
/-! ### lists of words under a law's hands -/
def LnD (d : Addr) (H : Hp) (v : V) (l : List Str) : Prop := ∃ u, v = .ref u ∧ u ≠ d ∧ H u = some (.lst (l.map V.str))
def LsD (d : Addr) (H : Hp) (a : Addr) (Ls : List (List Str)) : Prop := a ≠ d ∧ ∃ us, H a = some (.lst us) ∧ Paired (LnD d H) us Ls
theorem Paired.dropK {α β : Type} {F : α → β → Prop} : ∀ {xs : List α} {l : List β} (n : Nat), Paired F xs l → Paired F (xs.drop n) (l.drop n)
  | _, _, 0, h => h
  | _, _, _ + 1, .nil => .nil
  | _, _, n + 1, .cons _ t => Paired.dropK n t
section
variable {d a : Addr} {H H' : Hp} {v : V} {l : List Str} {Ls Ms : List (List Str)}
theorem LnD.same (h : LnD d H v l) (s : Same H H') : LnD d H' v l := by
  obtain ⟨u, e, n, hu⟩ := h
  exact ⟨u, e, n, s _ _ hu⟩
theorem LnD.but (h : LnD d H v l) (b : But d H H') : LnD d H' v l := by
  obtain ⟨u, e, n, hu⟩ := h
  exact ⟨u, e, n, b _ _ n hu⟩
theorem LsD.same (h : LsD d H a Ls) (s : Same H H') : LsD d H' a Ls := by
  obtain ⟨n, us, e, hu⟩ := h
  exact ⟨n, us, s _ _ e, Paired.mapP hu fun _ _ z => z.same s⟩
theorem LsD.but (h : LsD d H a Ls) (b : But d H H') : LsD d H' a Ls := by
  obtain ⟨n, us, e, hu⟩ := h
  exact ⟨n, us, b _ _ n e, Paired.mapP hu fun _ _ z => z.but b⟩
theorem LsD.at (h : LsD d H a Ls) : LsAt H a Ls := by
  obtain ⟨_, us, e, hu⟩ := h
  exact ⟨us, e, Paired.mapP hu fun _ _ ⟨u, e, _, hu⟩ => ⟨u, e, hu⟩⟩
theorem LnD.ext (h : LnD d H v l) (e : LamX.ExtN H H') : LnD d H' v l := by
  obtain ⟨u, e1, n, hu⟩ := h
  exact ⟨u, e1, n, ExtN.lst e hu⟩
theorem LsD.ext (h : LsD d H a Ls) (e : LamX.ExtN H H') : LsD d H' a Ls := by
  obtain ⟨n, us, e1, hu⟩ := h
  exact ⟨n, us, ExtN.lst e e1, Paired.mapP hu fun _ _ z => z.ext e⟩
theorem DAt.free {b : Addr} (D : DAt H d) (n : H b = none) : b ≠ d := (ne_of_none D.som.choose_spec n).symm
/-- lines[:k], lines[k:] .. of such a list, and their sum -/
theorem lsD_cut {K : PySem.W.Frag} {lo hi : Option Int} {Q : VK} {us : List V} (f : {α : Type} → List α → List α) (D : DAt H d) (ha : H a = some (.lst us)) (hP : Paired (LnD d H) us Ls) (ef : cutV us lo hi = f us) (pf : Paired (LnD d H) (f us) (f Ls))
    (h : ∀ b H', Same H H' → DAt H' d → b ≠ d → H' b = some (.lst (f us)) → Paired (LnD d H') (f us) (f Ls) → Q (.ref b) H') : rSlL K (.ref a) lo hi H Q :=
  slL_case ha fun b H' s nb hb => h b H' s (D.but s) (D.free nb) (by rw [hb, ef]) (Paired.mapP pf fun _ _ z => z.same s)
end
/-- the bounds that the lines keep while a law changes them -/
structure LsB (WS : List Str) (n m : Nat) (Ls : List (List Str)) : Prop where
  ne : Ls ≠ []
  len : Ls.length ≤ n
  ln : ∀ l ∈ Ls, l ≠ [] ∧ l.length ≤ m ∧ ∀ w ∈ l, w ∈ WS
section
variable {WS : List Str} {n m : Nat} {Ls : List (List Str)}
theorem LsB.mono {n' m' : Nat} (h : LsB WS n m Ls) (h1 : n ≤ n') (h2 : m ≤ m') : LsB WS n' m' Ls := ⟨h.ne, Nat.le_trans h.len h1, fun l hl => ⟨(h.ln l hl).1, Nat.le_trans (h.ln l hl).2.1 h2, (h.ln l hl).2.2⟩⟩
theorem LsB.good (h : LsB WS n m Ls) (h1 : n ≤ 60) (h2 : m ≤ 40) (g : ∀ w ∈ WS, WG w) : LsG Ls := ⟨h.ne, Nat.le_trans h.len h1, fun l hl => ⟨(h.ln l hl).1, Nat.le_trans (h.ln l hl).2.1 h2, fun w hw => g w ((h.ln l hl).2.2 w hw)⟩⟩
theorem LsB.drop1 {k : Nat} (h : LsB WS n m Ls) (h1 : 1 < Ls.length) (hk : k < Ls.length) : LsB WS n m (Ls.take k ++ Ls.drop (k + 1)) := by
  have e : (Ls.take k ++ Ls.drop (k + 1)).length = Ls.length - 1 := by
    rw [List.length_append, List.length_take, List.length_drop]
    omega
  refine ⟨fun z => ?_, ?_, fun l hl => ?_⟩
  · rw [z] at e
    have : 0 = Ls.length - 1 := e
    omega
  · have := h.len
    omega
  · rcases List.mem_append.mp hl with z | z
    · exact h.ln l (List.mem_of_mem_take z)
    · exact h.ln l (List.mem_of_mem_drop z)
theorem LsB.put {k j : Nat} {l : List Str} (h : LsB WS n m Ls) (hk : k < Ls.length) (hj : j = k ∨ j = k + 1) (ne : l ≠ []) (hm : l.length ≤ m) (hw : ∀ w ∈ l, w ∈ WS) : LsB WS (n + 1) m (Ls.take k ++ [l] ++ Ls.drop j) := by
  refine ⟨by simp, ?_, fun l' hl => ?_⟩
  · have := h.len
    rw [List.length_append, List.length_append, List.length_take, List.length_drop, List.length_singleton]
    rcases hj with rfl | rfl <;> omega
  · rcases List.mem_append.mp hl with z | z
    · rcases List.mem_append.mp z with z | z
      · exact h.ln l' (List.mem_of_mem_take z)
      · obtain rfl := List.mem_singleton.mp z
        exact ⟨ne, hm, hw⟩
    · exact h.ln l' (List.mem_of_mem_drop z)
theorem LsB.put1 {k : Nat} {l : List Str} (h : LsB WS n m Ls) (hk : k < Ls.length) (ne : l ≠ []) (hm : l.length ≤ m) (hw : ∀ w ∈ l, w ∈ WS) : LsB WS n m (Ls.take k ++ [l] ++ Ls.drop (k + 1)) := by
  refine ⟨by simp, ?_, (h.put hk (.inr rfl) ne hm hw).ln⟩
  have := h.len
  rw [List.length_append, List.length_append, List.length_take, List.length_drop, List.length_singleton]
  omega
end
/-- a line where words are taken out and put in -/
def chgL (l : List Str) (at_ c r : Nat) (w : Str) : List Str := l.take at_ ++ List.replicate r w ++ l.drop (at_ + c)
theorem chgL_len {l : List Str} {at_ c r : Nat} {w : Str} : (chgL l at_ c r w).length ≤ l.length + r := by
  unfold chgL
  rw [List.length_append, List.length_append, List.length_take, List.length_drop, List.length_replicate]
  omega
theorem chgL_ne {l : List Str} {at_ c r : Nat} {w : Str} (h : l ≠ []) (hr : 1 ≤ r ∨ c = 0) : chgL l at_ c r w ≠ [] := by
  intro e
  unfold chgL at e
  rcases hr with z | rfl
  · have e2 := congrArg List.length e
    rw [List.length_append, List.length_append, List.length_replicate] at e2
    have : (l.take at_).length + r + (l.drop (at_ + c)).length = 0 := e2
    omega
  · rw [Nat.add_zero] at e
    have e2 := congrArg List.length e
    rw [List.length_append, List.length_append, List.length_take, List.length_drop] at e2
    have e3 : min at_ l.length + (List.replicate r w).length + (l.length - at_) = 0 := e2
    have : l.length = 0 := by omega
    exact h (List.length_eq_zero_iff.mp this)
theorem chgL_mem {WS : List Str} {l : List Str} {at_ c r : Nat} {w : Str} (h : ∀ z ∈ l, z ∈ WS) (hw : w ∈ WS) : ∀ z ∈ chgL l at_ c r w, z ∈ WS := fun z hz => by
  unfold chgL at hz
  rcases List.mem_append.mp hz with y | y
  · rcases List.mem_append.mp y with y | y
    · exact h z (List.mem_of_mem_take y)
    · rw [List.eq_of_mem_replicate y]
      exact hw
  · exact h z (List.mem_of_mem_drop y)
/-! ### k18: what stands while the lines are changed -/
def lines18 : List (List Str) := [["net", "4", "3"], ["order", "0", "1", "0", "2", "1"], ["order", "1", "2", "3", "1", "9"]]
def words18 : List Str := ["", "07", "5", "1000", "999", "-1", "x", "order", "net", "+1", "1.0", "0"]
theorem words18_WL : ∀ w ∈ words18, w ∈ WL := by decide +kernel
theorem lsB18 (r : Nat) : LsB WL 3 6 (lines18.take (1 + r)) := by
  have h : ∀ l ∈ lines18, l ≠ [] ∧ l.length ≤ 6 ∧ ∀ w ∈ l, w ∈ WL := by decide +kernel
  refine ⟨fun z => ?_, ?_, fun l hl => h l (List.mem_of_mem_take hl)⟩
  · have := congrArg List.length z
    rw [List.length_take] at this
    have e : min (1 + r) 3 = 0 := this
    omega
  · rw [List.length_take]
    exact Nat.min_le_right _ _
section
open LamX (Tabs ExtN)
structure J18 (d wl Pt : Addr) (q : Str) (a : Addr) (Ls : List (List Str)) (H : Hp) : Prop where
  D : DAt H d
  T : Tabs [(Pt, q)] H
  nw : wl ≠ d
  W : H wl = some (.lst (words18.map V.str))
  L : LsD d H a Ls
variable {d wl Pt a b : Addr} {q : Str} {Ls Ms : List (List Str)} {H H' : Hp}
theorem J18.same (J : J18 d wl Pt q a Ls H) (s : Same H H') : J18 d wl Pt q a Ls H' := ⟨J.D.but s, tabs_same J.T s, J.nw, s _ _ J.W, J.L.same s⟩
theorem J18.butD (J : J18 d wl Pt q a Ls H) (b : But d H H') (D' : DAt H' d) : J18 d wl Pt q a Ls H' := ⟨D', tabs_butD J.T b J.D, J.nw, b _ _ J.nw J.W, J.L.but b⟩
theorem J18.put (J : J18 d wl Pt q a Ls H) (L' : LsD d H b Ms) : J18 d wl Pt q b Ms H := ⟨J.D, J.T, J.nw, J.W, L'⟩
end
theorem if_and {c1 c2 : TT} {t u : TS} {D : Ends} {σ : L2.St} {H : Hp} (P1 P2 : Prop) [Decidable P1] [Decidable P2] (h1 : ∀ k : Bool → Hp → Prop, k (decide P1) H → c1 σ H k) (h2 : ∀ k : Bool → Hp → Prop, k (decide P2) H → c2 σ H k) (ht : P1 → P2 → t D σ H) (hu : ¬ (P1 ∧ P2) → u D σ H) : tIfS (tAnd c1 c2) t u D σ H := by
  refine h1 _ ?_
  by_cases p1 : P1
  · rw [decide_eq_true p1]
    refine h2 _ ?_
    by_cases p2 : P2
    · rw [decide_eq_true p2]
      exact ht p1 p2
    · rw [decide_eq_false p2]
      exact hu fun z => p2 z.2
  · rw [decide_eq_false p1]
    exact hu fun z => p1 z.1
theorem if_dec {c : TT} {t u : TS} {D : Ends} {σ : L2.St} {H : Hp} (P1 : Prop) [Decidable P1] (h1 : ∀ k : Bool → Hp → Prop, k (decide P1) H → c σ H k) (ht : P1 → t D σ H) (hu : ¬ P1 → u D σ H) : tIfS c t u D σ H := by
  refine h1 _ ?_
  by_cases p1 : P1
  · rw [decide_eq_true p1]
    exact ht p1
  · rw [decide_eq_false p1]
    exact hu p1
theorem int_dec {m n : Nat} : decide (V.int (m : Nat) = V.int (n : Nat)) = decide (m = n) := by
  by_cases c : m = n
  · rw [decide_eq_true c, decide_eq_true (by rw [c])]
  · rw [decide_eq_false c, decide_eq_false fun z => c (by have := V.int.inj z; omega)]
theorem eq_nat {σ : L2.St} {H : Hp} {k : Bool → Hp → Prop} {i m n : Nat} (h : σ[i]? = some (some (.int (m : Nat)))) (q : k (decide (m = n)) H) : tTest (tOp rEq (tVar i) (tC (.int (n : Nat)))) σ H k := by
  refine ⟨_, h, rfl, _, rfl, ?_⟩
  rw [int_dec]
  exact q
theorem cut_dropLast {l : List Str} (h : l ≠ []) : cutV (l.map V.str) none (some (-1)) = l.dropLast.map V.str := by
  have e : l.map V.str = l.dropLast.map V.str ++ [V.str (l.getLast h)] := by
    rw [show [V.str (l.getLast h)] = [l.getLast h].map V.str from rfl, ← List.map_append, List.dropLast_concat_getLast]
  rw [e]
  generalize l.dropLast.map V.str = xs
  generalize V.str (l.getLast h) = v
  unfold cutV
  rw [HT.sIx_none, show HT.sIx (xs ++ [v]).length (xs ++ [v]).length (some (-1)) = xs.length by
    rw [List.length_append, List.length_singleton]
    unfold HT.sIx
    simp only
    rw [if_pos (by decide)]
    omega]
  simp
/-! ### k02: the answer of the helper, compared with a literal -/
def netD (part : Str) (n : Nat) : PyData := .tuple [.str "net", .tuple [.str part, .int n]]
theorem netD_sh {part : Str} {n : Nat} (hp : PyData.strOk part = true) : PySem.SeqAt.shaped (netD part n) = true := by
  have h1 : PyData.strOk ("net" : Str) = true := by decide +kernel
  simp [netD, PySem.SeqAt.shaped, PyData.canLay0, PyData.canLayAll0, PyData.depth, PyData.depthAll, hp, h1]
theorem netD_dp {K : PySem.W.Frag} {H : Hp} {u v : Addr} {part : Str} {n : Nat} (hu : H u = some (.tup [.str "net", .ref v])) (hv : H v = some (.tup [.str part, .int n])) : Dp K H (.ref u) (netD part n) :=
  .tup (SqT.of hu) (.cons (.str _) (.cons (.tup (SqT.of hv) (.cons (.str _) (.cons (.int _) .nil))) .nil))
theorem net_lit {K : PySem.W.Frag} {σ : L2.St} {H : Hp} {u v : Addr} {part : Str} {n : Nat} {te : TE} {R : Bool → Hp → Prop} (hp : PyData.strOk part = true) (hu : H u = some (.tup [.str "net", .ref v])) (hv : H v = some (.tup [.str part, .int n])) (ht : ∀ k : V → Hp → Prop, k (.int n) H → te σ H k) (q : ∀ H', Same H H' → R false H') :
    tTup (tCons (tC (.str "net")) (tCons (tTup (tCons (tC (.str part)) (tCons te tNil))) tNil)) σ H (fun y H2 => rNeD K (.ref u) y H2 fun x H' => ∃ b, x = V.bl b ∧ R b H') := by
  refine ht _ ⟨(by show 2 ≤ sizeLine; decide), fun y ny => ⟨(by show 2 ≤ sizeLine; decide), fun z nz => ?_⟩⟩
  have s1 := same_upd (o := HO.tup [.str part, .int n]) ny
  have s2 := same_upd (o := HO.tup [.str "net", .ref y]) nz
  have s12 := s1.trans s2
  exact ⟨netD part n, netD part n, netD_dp (s12 _ _ hu) (s12 _ _ hv), netD_dp upd_same (s2 _ _ upd_same), netD_sh hp, netD_sh hp, false, congrArg V.bl (eqv_selfN (netD_sh hp)), q _ s12⟩
/-! ### k18: lines whose numbers are those of a net -/
theorem vals_back {ws : List Str} (g : ∀ z ∈ ws, WG z) (h : ∀ z ∈ ws, (valW z).isSome = true) (l : ∀ n ∈ ws.filterMap valW, n ≤ 30) : (ws.filterMap valW).map nT = ws ∧ (ws.filterMap valW).length = ws.length := by
  induction ws with
  | nil => exact ⟨rfl, rfl⟩
  | cons w r ih =>
    have h1 := h w (List.mem_cons_self ..)
    cases e : valW w with
    | none =>
      rw [e] at h1
      cases h1
    | some n =>
      rw [List.filterMap_cons_some e] at l ⊢
      obtain ⟨i1, i2⟩ := ih (fun z hz => g z (List.mem_cons_of_mem _ hz)) (fun z hz => h z (List.mem_cons_of_mem _ hz)) fun m hm => l m (List.mem_cons_of_mem _ hm)
      rw [List.map_cons, i1, (g w (List.mem_cons_self ..)).nT n e (l n (List.mem_cons_self ..)), List.length_cons, List.length_cons, i2]
      exact ⟨rfl, rfl⟩
theorem vals_len {ws : List Str} (h : ∀ z ∈ ws, (valW z).isSome = true) : (ws.filterMap valW).length = ws.length := by
  induction ws with
  | nil => rfl
  | cons w r ih =>
    have h1 := h w (List.mem_cons_self ..)
    cases e : valW w with
    | none =>
      rw [e] at h1
      cases h1
    | some n =>
      rw [List.filterMap_cons_some e, List.length_cons, List.length_cons, ih fun z hz => h z (List.mem_cons_of_mem _ hz)]
/-- lines without a fault: their numbers -/
theorem flt_none {l0 : List Str} {Lr : List (List Str)} (h : FltAt (l0 :: Lr) none) : (∃ w1 w2 p q, l0 = [("net" : Str), w1, w2] ∧ valW w1 = some p ∧ valW w2 = some q ∧ rowN l0 = [p, q]) ∧ ∀ l ∈ Lr, ∃ ws, l = ("order" : Str) :: ws ∧ ws.length = 5 ∧ (∀ z ∈ ws, (valW z).isSome = true) ∧ (rowN l).length = 5 := by
  refine ⟨?_, fun l hl => ?_⟩
  · obtain ⟨r, hr⟩ := h 0 l0 rfl
    obtain ⟨w, ws, rfl, rfl, h3, h4, rfl⟩ := rowW_some hr
    match ws, h3, h4 with
    | [w1, w2], _, h4 =>
      have a1 := h4 w1 (List.mem_cons_self ..)
      have a2 := h4 w2 (List.mem_cons_of_mem _ (List.mem_cons_self ..))
      cases e1 : valW w1 with
      | none => rw [e1] at a1; cases a1
      | some p =>
        cases e2 : valW w2 with
        | none => rw [e2] at a2; cases a2
        | some q =>
          refine ⟨w1, w2, p, q, rfl, e1, e2, ?_⟩
          show ([w1, w2] : List Str).filterMap valW = [p, q]
          rw [List.filterMap_cons_some e1, List.filterMap_cons_some e2]
          rfl
  · obtain ⟨i, hi⟩ := List.mem_iff_getElem?.mp hl
    obtain ⟨r, hr⟩ := h (i + 1) l hi
    obtain ⟨w, ws, rfl, rfl, h3, h4, rfl⟩ := rowW_some hr
    rw [if_neg (Nat.succ_ne_zero i)] at h3 ⊢
    refine ⟨ws, rfl, h3, h4, ?_⟩
    show (ws.filterMap valW).length = 5
    rw [vals_len h4, h3]
theorem text_back {l0 : List Str} {Lr : List (List Str)} {p q : Nat} (G : LsG (l0 :: Lr)) (h : FltAt (l0 :: Lr) none) (e : rowN l0 = [p, q]) (ok : NetOk p q ((Lr.map rowN).map odR)) : textW (l0 :: Lr) = textOf p q ((Lr.map rowN).map odR) := by
  obtain ⟨⟨w1, w2, p', q', rfl, e1, e2, e3⟩, h2⟩ := flt_none h
  rw [e3] at e
  obtain ⟨rfl, e4⟩ := List.cons.inj e
  obtain ⟨rfl, _⟩ := List.cons.inj e4
  have g1 := (G.ln _ (List.mem_cons_self ..)).2.2
  have p30 := ok.p30
  have h10 := ok.h10
  have n1 : nT p' = w1 := (g1 w1 (by simp)).nT _ e1 p30
  have n2 : nT q' = w2 := (g1 w2 (by simp)).nT _ e2 (by omega)
  unfold textW textOf linesOf
  have a : lineW [("net" : Str), w1, w2] = lineNet p' q' := by
    unfold lineW lineNet
    rw [n1, n2]
  have b : Lr.map lineW = ((Lr.map rowN).map odR).map lineOrd := by
    rw [List.map_map, List.map_map]
    refine List.map_congr_left fun l hl => ?_
    obtain ⟨ws, rfl, h5, hs, hr⟩ := h2 l hl
    have gl := (G.ln _ (List.mem_cons_of_mem _ hl)).2.2
    have ho : odR (rowN (("order" : Str) :: ws)) ∈ (Lr.map rowN).map odR := List.mem_map_of_mem (List.mem_map_of_mem hl)
    obtain ⟨b1, b2, b3, b4, b5⟩ := od_le ok ho
    have er := odR_row hr
    show lineW (("order" : Str) :: ws) = lineOrd (odR (rowN (("order" : Str) :: ws)))
    generalize odR (rowN (("order" : Str) :: ws)) = o at b1 b2 b3 b4 b5 er
    have er : ws.filterMap valW = [o.s, o.t, o.f, o.n, o.e] := er
    have l30 : ∀ n ∈ ws.filterMap valW, n ≤ 30 := fun n hn => by
      rw [er] at hn
      simp only [List.mem_cons, List.not_mem_nil, or_false] at hn
      rcases hn with rfl | rfl | rfl | rfl | rfl <;> assumption
    have vb := (vals_back (fun z hz => gl z (List.mem_cons_of_mem _ hz)) hs l30).1
    rw [er] at vb
    have vb : [nT o.s, nT o.t, nT o.f, nT o.n, nT o.e] = ws := vb
    unfold lineW lineOrd wordsO
    rw [vb]
  rw [List.map_cons, a, b]
def NumAt (H : Hp) (v : V) (r : List Nat) : Prop := ∃ u, v = .ref u ∧ H u = some (.lst (nints r))
theorem NumAt.same {H H' : Hp} (s : Same H H') {v : V} {r : List Nat} (h : NumAt H v r) : NumAt H' v r := by
  obtain ⟨u, e, hu⟩ := h
  exact ⟨u, e, s _ _ hu⟩
theorem textD_sh {n : Nat} : PySem.SeqAt.shaped (.tuple [.str "text", .int (n : Nat)]) = true := by
  have h1 : PyData.strOk ("text" : Str) = true := by decide +kernel
  simp [PySem.SeqAt.shaped, PyData.canLay0, PyData.canLayAll0, PyData.depth, PyData.depthAll, h1]
theorem text_lit {K : PySem.W.Frag} {σ : L2.St} {H : Hp} {u : Addr} {n : Nat} {te : TE} {Q : VK} (hu : H u = some (.tup [.str "text", .int (n : Nat)])) (ht : ∀ k : V → Hp → Prop, k (.int (n : Nat)) H → te σ H k) (q : ∀ H', Same H H' → Q (.bl true) H') :
    tTup (tCons (tC (.str "text")) (tCons te tNil)) σ H (fun y H2 => rEqD K (.ref u) y H2 Q) := by
  refine ht _ ⟨(by show 2 ≤ sizeLine; decide), fun y ny => ?_⟩
  have s1 := same_upd (o := HO.tup [.str "text", .int (n : Nat)]) ny
  refine ⟨_, _, .tup (SqT.of (s1 _ _ hu)) (.cons (.str _) (.cons (.int _) .nil)), .tup (SqT.of upd_same) (.cons (.str _) (.cons (.int _) .nil)), textD_sh, textD_sh, ?_⟩
  rw [PySem.SeqAt.eqv_refl _ (PySem.SeqAt.canLay_of_shaped textD_sh)]
  exact q _ s1
theorem net_same {K : PySem.W.Frag} {H : Hp} {u v u' v' : Addr} {part : Str} {n : Nat} {Q : VK} (hp : PyData.strOk part = true) (hu : H u = some (.tup [.str "net", .ref v])) (hv : H v = some (.tup [.str part, .int n])) (hu' : H u' = some (.tup [.str "net", .ref v'])) (hv' : H v' = some (.tup [.str part, .int n])) (q : Q (.bl true) H) : rEqD K (.ref u) (.ref u') H Q := by
  refine ⟨netD part n, netD part n, netD_dp hu hv, netD_dp hu' hv', netD_sh hp, netD_sh hp, ?_⟩
  rw [PySem.SeqAt.eqv_refl _ (PySem.SeqAt.canLay_of_shaped (netD_sh hp))]
  exact q
def NumN (d : Addr) (H : Hp) (v : V) (r : List Nat) : Prop := ∃ u, v = .ref u ∧ u ≠ d ∧ H u = some (.lst (nints r))
theorem rows_ods {H : Hp} {us : List V} {rows : List (List Nat)} (h : Paired (RowTup H) us rows) (h5 : ∀ r ∈ rows, r.length = 5) : Paired (OrdAt H) us (rows.map odR) := by
  induction h with
  | nil => exact .nil
  | cons z _ ih =>
    refine .cons ?_ (ih fun r hr => h5 r (List.mem_cons_of_mem _ hr))
    obtain ⟨u, rfl, hu⟩ := z
    rw [odR_row (h5 _ (List.mem_cons_self ..))] at hu
    exact ⟨u, rfl, hu⟩
abbrev s_law : Stmt := top 41
abbrev N_law : List Str := ["_law_script", "_law_d", "_law_lines", "_law_words", "_law_change", "_law_k", "_law_kind", "_law_word", "_law_at", "_law_rest", "_law_line", "_law_rows", "_law_expected", "_law_numbers", "_law_error", "_law_parts", "_law_text", "_law_row"]
abbrev P_law : List Str := ["_law_script"]
theorem sc_law : FnScope N_law P_law (defScope s_law) := ⟨rfl, rfl, rfl, by decide +kernel, rfl, by decide +kernel, by decide +kernel⟩
def spNetB (K : PySem.W.Frag) (C N : Addr) : Sp := fun vs H Q E => spNet C vs H Q E ∨ spNetX K N vs H Q E
section
open LamX (Tabs TabB)
variable {P : Program} {w : World} {K : PySem.W.Frag} {mg : Str → Option Value} {base : Heap}
set_option maxHeartbeats 0 in
theorem ok_law {f C fX fN fP pP fT pT cL Pt CP : Addr} {mc : Value} {cE : Nat → Addr} {fd fdX fdN fdP fdT : FuncData} (F : FunC K "law" "law" s_law f fd cL) (TBl : TabB base mg cL Pt) (B : Blt mg) (TN : NetT K C)
    (FX : Fun K "_law_error_of" "_law_error_of" s_l_error_of fX fdX) (gX : mg "_law_error_of" = some (.ref fX)) (kX : PySem.W.keepIn K (.ref fX) = true) (bX : Binds K fdX P_l_error_of []) (ME : ErrM mg CP cE) (e11 : Err15 K CP cE (cE 11) 11) (xc11 : XfC K (cE 11)) (xf1 : PySem.W.findIn K (.ref (cE 11)) "part" = some none) (xf2 : PySem.W.findIn K (.ref (cE 11)) "index" = some none) (e12 : Err15 K CP cE (cE 12) 12) (xc12 : XfC K (cE 12)) (xf3 : PySem.W.findIn K (.ref (cE 12)) "line" = some none)
    (DR : Df P w K mg base "_law_random" 2 P_l_random (spRandom K)) (DB : Df P w K mg base "_law_below" 2 P_l_below spBelow) (DT : Df P w K mg base "_law_text_fault" 3 P_l_text_fault spLawFlt)
    (gN : mg "_law_net" = some (.ref fN)) (kN : PySem.W.keepIn K (.ref fN) = true) (bN : Binds K fdN P_l_net []) (GNB : FnOk P w K mg base (L2.CX P w) 7 fN fdN P_l_net (spNetB K C (cE 11)))
    (gC : mg "Net" = some (.ref C)) (rC : ClX.CRead K C mc) (cP : ClX.CMet K C mc "parse" pP fP) (GP : FnOk P w K mg base CX0 7 fP fdP P_Net_parse (spParse C)) (GPX : FnOk P w K mg base (L2.CX P w) 7 fP fdP P_Net_parse (spParseX K C (cE 12) (cE 11))) (bP : Binds K fdP P_Net_parse [])
    (pO : PropOf K C "text" pT fT) (GTx : FnOk P w K mg base CX0 2 fT fdT P_Net_text (spText C)) (bTx : Binds K fdT P_Net_text []) : FnOk P w K mg base CX0 10 f fd P_law (spLawT K Pt) := by
  obtain ⟨f1, d1, g1, k1, b1, G1⟩ := DR
  obtain ⟨fB, dB, gB, kB, bB, GB⟩ := DB
  obtain ⟨fTf, dTf, gT, kT, bT, GT⟩ := DT
  obtain ⟨ocX, odX, kVX, docX, pmX, anX, cdvX, ctX, oslX, rfl, lkX, hcX⟩ := FX.ex
  have FP : FnR P w K mg base CX0 7 fP (spParse C) := (GP.raw bP .nil).imp fun vs H Q E h => by rw [List.append_nil]; exact h
  have FPX : FnR P w K mg base (L2.CX P w) 7 fP (spParseX K C (cE 12) (cE 11)) := (GPX.raw bP .nil).imp fun vs H Q E h => by rw [List.append_nil]; exact h
  refine F.ok sc_law (fun vs H Q E h => ?_) (fun A outer s H vs Q E hr h => ?_)
  · obtain ⟨a, ns, rfl, _⟩ := h
    rfl
  · obtain ⟨a, ns, rfl, hS, hlen, hPt, qz⟩ := h
    have hr2 : Room 2 _ := hr.mono (by decide)
    have hr3 : Room 3 _ := hr.mono (by decide)
    have hr7 : Room 7 _ := hr.mono (by decide)
    have hu : (A.deeper (PyProof.Rows.envOfC "law" (defScope s_law) s.heap.objs.size f (.ref cL))).units + 64 < cLine := hr.units
    refine ⟨_, (pss_cons (ps_set (i := 1) sc_law.nd rfl (.inl rfl) (pe_call G1 hr2 (by rfl) g1 k1 b1 .nil pass0 (pa_cons (pv 0) (pa_cons pe_int pa_nil))))
      (pss_cons (ps_set (i := 2) sc_law.nd rfl (.inl rfl) (pe_lst (pa_cons (pe_lst (pa_cons pe_str (pa_cons pe_str (pa_cons pe_str pa_nil)))) (pa_cons (pe_lst (pa_cons pe_str (pa_cons pe_str (pa_cons pe_str (pa_cons pe_str (pa_cons pe_str (pa_cons pe_str pa_nil))))))) (pa_cons (pe_lst (pa_cons pe_str (pa_cons pe_str (pa_cons pe_str (pa_cons pe_str (pa_cons pe_str (pa_cons pe_str pa_nil))))))) pa_nil)))))
      (pss_cons (ps_set (i := 2) sc_law.nd rfl (.inl rfl) (pe_slice sl_list (pv 2) po_none (po_some (pe_op op_add pe_int (pe_call GB hr2 (by rfl) gB kB bB .nil pass0 (pa_cons (pv 1) (pa_cons pe_int pa_nil)))))))
      (pss_cons (ps_set (i := 3) sc_law.nd rfl (.inl rfl) (pe_lst (pa_cons pe_str (pa_cons pe_str (pa_cons pe_str (pa_cons pe_str (pa_cons pe_str (pa_cons pe_str (pa_cons pe_str (pa_cons pe_str (pa_cons pe_str (pa_cons pe_str (pa_cons pe_str (pa_cons pe_str pa_nil))))))))))))))
      (pss_cons (ps_for PassesOwn.never rfl (pi_range1 rfl B.range (pa_cons (pe_call GB hr2 (by rfl) gB kB bB .nil pass0 (pa_cons (pv 1) (pa_cons pe_int pa_nil))) pa_nil)) (pg_name (i := 4) sc_law.nd rfl (.inl rfl)) (pss_cons (ps_par3 (by rfl) sc_law.nd (i := 5) (j := 6) (l := 7) rfl rfl rfl (by decide) (by decide) (by decide) rfl rfl rfl (pa_cons (pe_call GB hr2 (by rfl) gB kB bB .nil pass0 (pa_cons (pv 1) (pa_cons (pe_callB call_len_seq (by rfl) B.len PySem.boot_len (pa_cons (pv 2) pa_nil)) pa_nil))) (pa_cons (pe_call GB hr2 (by rfl) gB kB bB .nil pass0 (pa_cons (pv 1) (pa_cons pe_int pa_nil))) (pa_cons (pe_ix ix_list (pv 3) (pe_call GB hr2 (by rfl) gB kB bB .nil pass0 (pa_cons (pv 1) (pa_cons pe_int pa_nil))) (fun _ _ => rfl)) pa_nil))) (by rfl))
      (pss_cons (ps_set (i := 8) sc_law.nd rfl (.inl rfl) (pe_call GB hr2 (by rfl) gB kB bB .nil pass0 (pa_cons (pv 1) (pa_cons (pe_op op_add (pe_callB call_len_seq (by rfl) B.len PySem.boot_len (pa_cons (pe_ix ix_list (pv 2) (pv 5) (fun _ _ => rfl)) pa_nil)) pe_int) pa_nil))))
      (pss_one (ps_if (PW.pt (pw_and (pt_cmpR op_eq (pv 6) pe_int (nomark _)) (pw_and1 (pt_cmpR op_gt (pe_callB call_len_seq (by rfl) B.len PySem.boot_len (pa_cons (pv 2) pa_nil)) pe_int (nomark _))))) (pss_one (ps_set (i := 2) sc_law.nd rfl (.inl rfl) (pe_op op_cat (pe_slice sl_list (pv 2) po_none (po_some (pv 5))) (pe_slice sl_list (pv 2) (po_some (pe_op op_add (pv 5) pe_int)) po_none)))) (pss_one (ps_if (pt_cmpR op_eq (pv 6) pe_int (nomark _)) (pss_one (ps_set (i := 2) sc_law.nd rfl (.inl rfl) (pe_op op_cat (pe_op op_cat (pe_slice sl_list (pv 2) po_none (po_some (pv 5))) (pe_lst (pa_cons (pe_lst (pa_cons (pv 7) pa_nil)) pa_nil))) (pe_slice sl_list (pv 2) (po_some (pv 5)) po_none)))) (pss_cons (ps_set (i := 9) sc_law.nd rfl (.inl rfl) (pe_slice sl_list (pe_ix ix_list (pv 2) (pv 5) (fun _ _ => rfl)) (po_some (pe_op op_add (pv 8) (pe_op op_modN (pv 6) pe_int))) po_none))
      (pss_cons (ps_set (i := 10) sc_law.nd rfl (.inl rfl) (pe_op op_cat (pe_op op_cat (pe_slice sl_list (pe_ix ix_list (pv 2) (pv 5) (fun _ _ => rfl)) po_none (po_some (pv 8))) (pe_op op_rep (pe_lst (pa_cons (pv 7) pa_nil)) (pe_op op_fdivN (pv 6) pe_int))) (pv 9)))
      (pss_one (ps_set (i := 2) sc_law.nd rfl (.inl rfl) (pe_op op_cat (pe_op op_cat (pe_slice sl_list (pv 2) po_none (po_some (pv 5))) (pe_lst (pa_cons (pv 10) pa_nil))) (pe_slice sl_list (pv 2) (po_some (pe_op op_add (pv 5) pe_int)) po_none)))))))))))))
      (C8.pss_cut (ps_if (pt_cmpR op_eq (pe_call GB hr2 (by rfl) gB kB bB .nil pass0 (pa_cons (pv 1) (pa_cons pe_int pa_nil))) pe_int (nomark _)) (pss_cons (ps_set (i := 5) sc_law.nd rfl (.inl rfl) (pe_call GB hr2 (by rfl) gB kB bB .nil pass0 (pa_cons (pv 1) (pa_cons (pe_callB call_len_seq (by rfl) B.len PySem.boot_len (pa_cons (pv 2) pa_nil)) pa_nil))))
      (pss_one (ps_set (i := 2) sc_law.nd rfl (.inl rfl) (pe_op op_cat (pe_op op_cat (pe_slice sl_list (pv 2) po_none (po_some (pv 5))) (pe_lst (pa_cons (pe_op op_cat (pe_slice sl_list (pe_ix ix_list (pv 2) (pv 5) (fun _ _ => rfl)) po_none (po_some (pe_un un_neg pe_int))) (pe_lst (pa_cons (pe_ix ix_list (pe_lst (pa_cons pe_str (pa_cons pe_str (pa_cons pe_str pa_nil)))) (pe_call GB hr2 (by rfl) gB kB bB .nil pass0 (pa_cons (pv 1) (pa_cons pe_int pa_nil))) (fun _ _ => rfl)) pa_nil))) pa_nil))) (pe_slice sl_list (pv 2) (po_some (pe_op op_add (pv 5) pe_int)) po_none))))) pss_nil)
      (pss_cons (ps_set (i := 16) sc_law.nd rfl (.inr rfl) (pe_join pe_str (pe_lc (own := [("_law_line", 10)]) (g := gName 10) (tt := tYes) (te := tM1 (fun x xs H Q => ∃ a p, ∃ ys : List Str, x = .str a ∧ xs = [.ref p] ∧ (SqL K H p (ys.map V.str) ∨ SqT K H p (ys.map V.str)) ∧ (ys.map (·.length)).sum + ys.length * a.length ≤ 16777216 ∧ Q (.str (Txt.join a ys)) H) (tC (.str " ")) (tVar 10)) (by rfl) sc_law.nd
        (pi_list (pv 2)) (blkOk_by (N := N_law) (sc := defScope s_law) (by decide +kernel)) (fun _ _ _ _ _ => (pg_name (i := 10) sc_law.nd rfl (.inl rfl))) (fun _ _ _ _ _ => pts_nil) (fun _ _ _ _ _ => pe_join pe_str (pv 10)))))
      (pss_cons (ps_setLc (i := 11) (own := [("_law_line", 10)]) (g := gName 10) (tt := tYes) (te := tM1 (fun x xs H Q => ∃ a b, x = .str a ∧ xs = [.str b] ∧ (b.length == 0) = false ∧ a.length + 2 ≤ sizeLine ∧ rNewStrs (Txt.split a b) H Q) (tVar 10) (tC (.str " "))) (by rfl) sc_law.nd rfl rfl (sw_true rfl rfl rfl (by decide +kernel))
        (pi_list (pe_split (pv 16) pe_str)) (blkOk_by (N := N_law) (sc := defScope s_law) (by decide +kernel)) (fun _ _ _ _ _ => (pg_name (i := 10) sc_law.nd rfl (.inl rfl))) (fun _ _ _ _ _ => pts_nil) (fun _ _ _ _ _ => pe_split (pv 10) pe_str))
      (pss_cons (ps_set (i := 12) sc_law.nd rfl (.inl rfl) (pe_call GT hr3 (by rfl) gT kT bT .nil pass0 (pa_cons (pv 11) pa_nil)))
      (pss_cons (ps_if (pt_cmpR op_notN (pv 12) pe_non (nomark _)) (pss_one (ps_ret (pe_cmpR (op_eqD hu) (LamX.pe_lamcall (T := [(Pt, _)]) (TT := TTerrE K CP cE) (k := 7) (Ng := N_l_error_of) (t := (fun E => ClX.tCMeth C (spParseX K C (cE 12) (cE 11)) E (tC (.ref C)) (tCons (tVar 16) tNil))) (by rfl) gX kX lkX hcX bX sc_l_error_of rfl (.inl rfl) (err_givesE ME B hr) TBl rfl List.mem_cons_self (fun p hp _ => by rw [List.mem_singleton.mp hp]) hr (LamX.lamS_by (by show LamX.lamSB (defScope s_law) _ = true; decide +kernel)) rfl (fun _ _ _ _ _ => rfl)
        (fun A outer s H E f c' hr' => ClX.pe_cmeth (E := E) (pe_glob (v := .ref C) rfl gC rfl) rC cP FPX hr' (passes_call (takes_of rfl rfl rfl rfl) fun _ _ _ _ z => z) (pa_cons (pv 16) pa_nil))) (pe_tup (pa_cons pe_str (pa_cons (pv 12) pa_nil))) (nomark _)))) pss_nil)
      (pss_cons (ps_setLc (i := 13) (own := [("_law_row", 17)]) (g := gName 17) (tt := tYes) (te := tLc (iList K (tSl (rSlL K) (tVar 17) (tPart (tC (.int 1))) tNoPart)) (gName 7) tYes (tCB (fun xs H Q => ∃ a n, xs = [V.str a] ∧ PySem.intText? a = some n ∧ a.length ≤ 640 ∧ Q (.int n) H) (tCons (tVar 7) tNil)) [7]) (by rfl) sc_law.nd rfl rfl (sw_true rfl rfl rfl (by decide +kernel))
        (pi_list (pv 11)) (blkOk_by (N := N_law) (sc := defScope s_law) (by decide +kernel)) (fun _ _ _ _ _ => (pg_name (i := 17) sc_law.nd rfl (.inl rfl))) (fun _ _ _ _ _ => pts_nil) (fun _ _ _ _ _ => (pe_lc (own := [("_law_word", 7)]) (g := gName 7) (tt := tYes) (te := tCB (fun xs H Q => ∃ a n, xs = [V.str a] ∧ PySem.intText? a = some n ∧ a.length ≤ 640 ∧ Q (.int n) H) (tCons (tVar 7) tNil)) (by rfl) sc_law.nd (pi_list (pe_slice sl_list (pv 17) (po_some pe_int) po_none))
        (blkOk_by (N := N_law) (sc := { kind := .function, names := [(Str.ofString ".0", .local), (Str.ofString "_law_row", .local)], isGenerator := false, isCoroutine := false }) (by decide +kernel)) (fun _ _ _ _ _ => (pg_name (i := 7) sc_law.nd rfl (.inl rfl))) (fun _ _ _ _ _ => pts_nil) (fun _ _ _ _ _ => pe_callTy call_int_str (by rfl) B.int (by decide +kernel) (pa_cons (pv 7) pa_nil)))))
      (pss_cons (ps_set (i := 15) sc_law.nd rfl (.inr rfl) (pe_tup (pa_cons (pe_ix ix_list (pe_ix ix_list (pv 13) pe_int (fun _ _ => rfl)) pe_int (fun _ _ => rfl)) (pa_cons (pe_ix ix_list (pe_ix ix_list (pv 13) pe_int (fun _ _ => rfl)) pe_int (fun _ _ => rfl)) (pa_cons (pe_callTy call_tuple_of (by rfl) B.tuple (by decide +kernel) (pa_cons (pe_lc (own := [("_law_row", 17)]) (g := gName 17) (tt := tYes) (te := tCB (fun xs H Q => ∃ p ys, xs = [.ref p] ∧ ((SqL K H p ys ∧ ∀ (l : Addr), H l = none → Q (.ref l) (L2.upd H l (.tup ys))) ∨ SqT K H p ys ∧ Q (.ref p) H)) (tCons (tVar 17) tNil)) (by rfl) sc_law.nd
        (pi_list (pe_slice sl_list (pv 13) (po_some pe_int) po_none)) (blkOk_by (N := N_law) (sc := defScope s_law) (by decide +kernel)) (fun _ _ _ _ _ => (pg_name (i := 17) sc_law.nd rfl (.inl rfl))) (fun _ _ _ _ _ => pts_nil) (fun _ _ _ _ _ => (pe_callTy call_tuple_of (by rfl) B.tuple (by decide +kernel) (pa_cons (pv 17) pa_nil)))) pa_nil)) pa_nil)))))
      (pss_cons (ps_set (i := 14) sc_law.nd rfl (.inl rfl) (LamX.pe_lamcall (T := [(Pt, _)]) (TT := TTerrE K CP cE) (k := 7) (Ng := N_l_error_of) (t := (fun E => tCall (spNetB K C (cE 11)) [] E (tCons (tVar 15) tNil))) (by rfl) gX kX lkX hcX bX sc_l_error_of rfl (.inl rfl) (err_givesE ME B hr) TBl rfl List.mem_cons_self (fun p hp _ => by rw [List.mem_singleton.mp hp]) hr (LamX.lamS_by (by show LamX.lamSB (defScope s_law) _ = true; decide +kernel)) rfl (fun _ _ _ _ _ => rfl)
        (fun A outer s H E f c' hr' => pe_call (E := E) GNB hr' (by rfl) gN kN bN .nil (passes_call (takes_of rfl rfl rfl rfl) fun _ _ _ _ z => z) (pa_cons (pv 15) pa_nil))))
      (pss_cons (ps_if (pt_cmpR op_notN (pv 14) pe_non (nomark _)) (pss_one (ps_ret (pe_cmpR (op_eqD hu) (LamX.pe_lamcall (T := [(Pt, _)]) (TT := TTerrE K CP cE) (k := 7) (Ng := N_l_error_of) (t := (fun E => ClX.tCMeth C (spParseX K C (cE 12) (cE 11)) E (tC (.ref C)) (tCons (tVar 16) tNil))) (by rfl) gX kX lkX hcX bX sc_l_error_of rfl (.inl rfl) (err_givesE ME B hr) TBl rfl List.mem_cons_self (fun p hp _ => by rw [List.mem_singleton.mp hp]) hr (LamX.lamS_by (by show LamX.lamSB (defScope s_law) _ = true; decide +kernel)) rfl (fun _ _ _ _ _ => rfl)
        (fun A outer s H E f c' hr' => ClX.pe_cmeth (E := E) (pe_glob (v := .ref C) rfl gC rfl) rC cP FPX hr' (passes_call (takes_of rfl rfl rfl rfl) fun _ _ _ _ z => z) (pa_cons (pv 16) pa_nil))) (pv 14) (nomark _)))) pss_nil)
      (pss_one (ps_ret (pe_cmpR op_eq (pe_prop (ClX.pe_cmeth (pe_glob (v := .ref C) rfl gC rfl) rC cP FP hr7 pass0 (pa_cons (pv 16) pa_nil)) TN.cl pO GTx hr3 bTx .nil pass0 rfl) (pv 16) (nomark _)))))))))))))))))), ?_⟩
    refine ⟨_, rfl, a, ns, 18, rfl, hS, hlen, by decide, fun H1 d s1 nd D1 => ?_⟩
    let qL : Str := (PyProof.Rows.envOfC "law" (defScope s_law) 0 0 .none).qual ++ "<lambda>"
    have T1 : Tabs [(Pt, qL)] H1 := fun p hp => by
      rw [List.mem_singleton.mp hp]
      exact LamX.TabS.nil (s1 _ _ hPt)
    clear s1 nd
    refine ⟨(by show 3 ≤ sizeLine; decide), fun u1 n1 => ⟨(by show 6 ≤ sizeLine; decide), fun u2 n2 => ⟨(by show 6 ≤ sizeLine; decide), fun u3 n3 => ⟨(by show 3 ≤ sizeLine; decide), fun u4 n4 => ?_⟩⟩⟩⟩
    have s1 := same_upd (o := HO.lst [.str "net", .str "4", .str "3"]) n1
    have h1 := (upd_same : (L2.upd H1 u1 (.lst [.str "net", .str "4", .str "3"])) u1 = _)
    generalize (L2.upd H1 u1 (.lst [.str "net", .str "4", .str "3"])) = H2 at s1 h1 n2 n3 n4
    have s2 := same_upd (o := HO.lst [.str "order", .str "0", .str "1", .str "0", .str "2", .str "1"]) n2
    have h2 := (upd_same : (L2.upd H2 u2 (.lst [.str "order", .str "0", .str "1", .str "0", .str "2", .str "1"])) u2 = _)
    generalize (L2.upd H2 u2 (.lst [.str "order", .str "0", .str "1", .str "0", .str "2", .str "1"])) = H3 at s2 h2 n3 n4
    have s3 := same_upd (o := HO.lst [.str "order", .str "1", .str "2", .str "3", .str "1", .str "9"]) n3
    have h3 := (upd_same : (L2.upd H3 u3 (.lst [.str "order", .str "1", .str "2", .str "3", .str "1", .str "9"])) u3 = _)
    generalize (L2.upd H3 u3 (.lst [.str "order", .str "1", .str "2", .str "3", .str "1", .str "9"])) = H4 at s3 h3 n4
    have s4 := same_upd (o := HO.lst [.ref u1, .ref u2, .ref u3]) n4
    have h4 := (upd_same : (L2.upd H4 u4 (.lst [.ref u1, .ref u2, .ref u3])) u4 = _)
    generalize (L2.upd H4 u4 (.lst [.ref u1, .ref u2, .ref u3])) = H5 at s4 h4
    have L5 : LsD d H5 u4 lines18 := ⟨(D1.but (s1.trans (s2.trans s3))).free n4, _, h4, .cons ⟨u1, rfl, D1.free n1, (s2.trans (s3.trans s4)) _ _ h1⟩ (.cons ⟨u2, rfl, (D1.but s1).free n2, (s3.trans s4) _ _ h2⟩ (.cons ⟨u3, rfl, (D1.but (s1.trans s2)).free n3, s4 _ _ h3⟩ .nil))⟩
    have s14 := s1.trans (s2.trans (s3.trans s4))
    have D5 := D1.but s14
    have T5 := tabs_same T1 s14
    clear n1 n2 n3 n4 s1 s2 s3 s4 h1 h2 h3 h4 s14 D1 T1
    -- the first lines
    refine ⟨_, rfl, _, rfl, d, 3, rfl, D5, by decide, by decide, fun H6 r0 hr0 b6 D6 => ⟨_, _, rfl, rfl, _, rfl, ?_⟩⟩
    have T6 := tabs_butD T5 b6 D5
    have L6 := L5.but b6
    obtain ⟨_, us, hus, hP⟩ := id L6
    refine lsD_cut (fun l => l.take (1 + r0)) D6 hus hP (by rw [show (1 : Int) + (r0 : Int) = ((1 + r0 : Nat) : Int) by omega]; exact cut_to) (Paired.take hP _) fun a0 H7 s7 D7 a0d ha0 hP7 => ?_
    have T7 := tabs_same T6 s7
    have L7 : LsD d H7 a0 (lines18.take (1 + r0)) := ⟨a0d, _, ha0, hP7⟩
    clear L5 L6 hus hP s7 D5 D6 T5 T6 b6 us ha0 hP7
    -- the words
    refine ⟨(by show 12 ≤ sizeLine; decide), fun wl nwl => ?_⟩
    have s8 := same_upd (o := HO.lst [.str "", .str "07", .str "5", .str "1000", .str "999", .str "-1", .str "x", .str "order", .str "net", .str "+1", .str "1.0", .str "0"]) nwl
    have h8 := (upd_same : (L2.upd H7 wl (.lst [.str "", .str "07", .str "5", .str "1000", .str "999", .str "-1", .str "x", .str "order", .str "net", .str "+1", .str "1.0", .str "0"])) wl = _)
    have wld := D7.free nwl
    have J8 : J18 d wl Pt qL a0 (lines18.take (1 + r0)) (L2.upd H7 wl (.lst [.str "", .str "07", .str "5", .str "1000", .str "999", .str "-1", .str "x", .str "order", .str "net", .str "+1", .str "1.0", .str "0"])) := ⟨D7.but s8, tabs_same T7 s8, wld, h8, L7.same s8⟩
    have B8 : LsB WL 3 6 (lines18.take (1 + r0)) := lsB18 _
    generalize lines18.take (1 + r0) = Ls8 at J8 B8 L7
    generalize (L2.upd H7 wl (.lst [.str "", .str "07", .str "5", .str "1000", .str "999", .str "-1", .str "x", .str "order", .str "net", .str "+1", .str "1.0", .str "0"])) = H8 at J8
    clear s8 h8 D7 T7 L7 hr0
    refine ⟨_, rfl, d, 3, rfl, J8.D, by decide, by decide, fun H9 n hn b9 D9 => ⟨((n : Nat) : Int), rfl, by omega, by omega, ?_⟩⟩
    have J9 := J8.butD b9 D9
    have hn2 : n ≤ 2 := by omega
    clear b9 D9 hn J8
    refine for_range (lo := 0) (n := ((n : Nat) : Int).toNat) (fun i σ H' => ∃ (la : Addr) (Ls : List (List Str)) (x4 x5 x6 x7 x8 x9 x10 : Option V), σ = [some (.ref a), some (.ref d), some (.ref la), some (.ref wl), x4, x5, x6, x7, x8, x9, x10, none, none, none, none, none, none, none] ∧ J18 d wl Pt qL la Ls H' ∧ LsB WL (3 + i) (6 + 2 * i) Ls)
      ⟨a0, Ls8, none, none, none, none, none, none, none, rfl, J9, B8⟩ ?_ ?_
    · clear J9 B8
      rintro i σ H1 hi ⟨la, Ls, x4, x5, x6, x7, x8, x9, x10, rfl, J, Bd⟩
      have hi2 : i < 2 := by have : i < ((n : Nat) : Int).toNat := hi; omega
      clear hi
      obtain ⟨_, us, hus, hP⟩ := id J.L
      have ul := hP.length
      have lpos : 0 < Ls.length := List.length_pos_iff.mpr Bd.ne
      have l5 := Bd.len
      refine ⟨_, rfl, _, rfl, la, us, rfl, .inl (SqL.of hus), d, us.length, rfl, J.D, by omega, by omega, fun H2 k hk b2 D2 => ?_⟩
      have J2 := J.butD b2 D2
      refine ⟨_, rfl, d, 7, rfl, J2.D, by decide, by decide, fun H3 kd hkd b3 D3 => ?_⟩
      have J3 := J2.butD b3 D3
      refine ⟨_, rfl, _, rfl, d, 12, rfl, J3.D, by decide, by decide, fun H4 wi hwi b4 D4 => ?_⟩
      have J4 := J3.butD b4 D4
      obtain ⟨w, hw⟩ : ∃ w, words18[wi]? = some w := ⟨_, List.getElem?_eq_getElem (show wi < words18.length from hwi)⟩
      have wW := words18_WL w (List.mem_of_getElem? hw)
      have hus4 := J4.L
      clear J J2 J3 b2 b3 b4 D2 D3 D4 hus hP
      obtain ⟨_, us4, hus, hP⟩ := id J4.L
      refine ⟨wl, _, (wi : Nat), .str w, rfl, rfl, SqL.of J4.W, atI_nat (by rw [List.getElem?_map, hw]; rfl), ?_⟩
      have kl : k < Ls.length := by omega
      have ek := List.getElem?_eq_getElem kl
      obtain ⟨v, hv, u, rfl, ud, hu0⟩ := Paired.get? (i := k) hP ek
      obtain ⟨lne, lm, lw⟩ := Bd.ln _ (List.mem_of_getElem? ek)
      generalize hlk : Ls[k] = l at ek hu0 lne lm lw
      refine ⟨_, _, _, rfl, _, rfl, _, rfl, _, rfl, la, _, (k : Nat), _, rfl, rfl, SqL.of hus, atI_nat hv, u, _, rfl, .inl (SqL.of hu0), _, _, rfl, rfl, d, (l.map V.str).length + 1, rfl, J4.D, by omega, by rw [List.length_map]; omega, fun H5 at_ hat b5 D5 => ?_⟩
      have hat : at_ < l.length + 1 := by rw [List.length_map] at hat; exact hat
      have J5 := J4.butD b5 D5
      replace hus := b5 _ _ J4.L.1 hus
      replace hP : Paired (LnD d H5) us4 Ls := Paired.mapP hP fun _ _ z => z.but b5
      replace hu0 := b5 _ _ ud hu0
      clear b5 D5 J4 ul
      have ul := hP.length
      have fin : ∀ (lb : Addr) (Ms : List (List Str)) (y8 y9 y10 : Option V) (H' : Hp), J18 d wl Pt qL lb Ms H' → LsB WL (3 + (i + 1)) (6 + 2 * (i + 1)) Ms → (fun σ H' => ∃ (la : Addr) (Ls : List (List Str)) (x4 x5 x6 x7 x8 x9 x10 : Option V), σ = [some (.ref a), some (.ref d), some (.ref la), some (.ref wl), x4, x5, x6, x7, x8, x9, x10, none, none, none, none, none, none, none] ∧ J18 d wl Pt qL la Ls H' ∧ LsB WL (3 + (i + 1)) (6 + 2 * (i + 1)) Ls : L2.St → Hp → Prop) [some (.ref a), some (.ref d), some (.ref lb), some (.ref wl), some (.int (0 + (i : Int))), some (.int (k : Nat)), some (.int (kd : Nat)), some (.str w), y8, y9, y10, none, none, none, none, none, none, none] H' :=
        fun lb Ms y8 y9 y10 H' j b => ⟨lb, Ms, _, _, _, _, _, _, _, rfl, j, b⟩
      have hcut1 : cutV us4 (some ((k : Nat) + 1 : Int)) none = us4.drop (k + 1) := by
        rw [show ((k : Nat) : Int) + 1 = ((k + 1 : Nat) : Int) by omega]
        exact cut_from
      have u1000 : us4.length ≤ 5 := by omega
      refine if_and (kd = 0) (1 < us4.length) (fun q z => eq_nat rfl z) (fun q z => ?_) (fun c1 c2 => ?_) (fun c12 => ?_)
      · refine ⟨_, rfl, la, _, rfl, .inl (SqL.of hus), _, _, rfl, rfl, _, rfl, ?_⟩
        rw [show decide ((1 : Int) < (us4.length : Int)) = decide (1 < us4.length) by by_cases c : 1 < us4.length <;> simp [c] <;> omega]
        exact z
      · -- a line goes
        refine ⟨_, rfl, _, rfl, _, rfl, lsD_cut (fun l => l.take k) J5.D hus hP cut_to (Paired.take hP _) fun b1 H6 s6 D6 n6 h6 P6 => ?_⟩
        refine ⟨_, rfl, _, rfl, _, _, rfl, rfl, _, rfl, ?_⟩
        unfold tNoPart
        refine lsD_cut (fun l => l.drop (k + 1)) D6 (s6 _ _ hus) (Paired.mapP hP fun _ _ z => z.same s6) hcut1 (Paired.mapP (Paired.dropK _ hP) fun _ _ z => z.same s6) fun b2 H7 s7 D7 n7 h7 P7 => ?_
        refine catL_case (s7 _ _ h6) h7 (Nat.le_of_lt (small1000 (by rw [List.length_take, List.length_drop]; omega))) fun b3 H8 s8 n8 h8 => fin _ _ _ _ _ _ ((J5.same (s6.trans (s7.trans s8))).put ⟨D7.free n8, _, h8, Paired.app (Paired.mapP P6 fun _ _ z => z.same (s7.trans s8)) (Paired.mapP P7 fun _ _ z => z.same s8)⟩) ((Bd.drop1 (by omega) kl).mono (by omega) (by omega))
      refine if_dec (kd = 1) (fun q z => eq_nat rfl z) (fun c1 => ?_) (fun c1 => ?_)
      · -- a line comes
        refine ⟨_, rfl, _, rfl, _, rfl, lsD_cut (fun l => l.take k) J5.D hus hP cut_to (Paired.take hP _) fun b1 H6 s6 D6 n6 h6 P6 => ?_⟩
        refine ⟨_, rfl, (by show 1 ≤ sizeLine; decide), fun u1 m1 => ⟨(by show 1 ≤ sizeLine; decide), fun b2 m2 => ?_⟩⟩
        have t1 := same_upd (o := HO.lst [.str w]) m1
        have g1 := (upd_same : (L2.upd H6 u1 (.lst [.str w])) u1 = _)
        generalize (L2.upd H6 u1 (.lst [.str w])) = H7 at t1 g1 m2
        have t2 := same_upd (o := HO.lst [.ref u1]) m2
        have g2 := (upd_same : (L2.upd H7 b2 (.lst [.ref u1])) b2 = _)
        generalize (L2.upd H7 b2 (.lst [.ref u1])) = H8 at t2 g2
        have u1d := D6.free m1
        have t12 := t1.trans t2
        refine catL_case (t12 _ _ h6) g2 (Nat.le_of_lt (small1000 (by rw [List.length_take]; show min k us4.length + 1 ≤ 1000; omega))) fun b3 H9 s9 n9 h9 => ?_
        have s69 := s6.trans (t12.trans s9)
        refine ⟨_, rfl, _, rfl, _, rfl, ?_⟩
        unfold tNoPart
        refine lsD_cut (fun l => l.drop k) (J5.D.but s69) (s69 _ _ hus) (Paired.mapP hP fun _ _ z => z.same s69) cut_from (Paired.mapP (Paired.dropK _ hP) fun _ _ z => z.same s69) fun b4 H10 s10 D10 n10 h10 P10 => ?_
        refine catL_case (s10 _ _ h9) h10 (Nat.le_of_lt (small1000 (by rw [List.length_append, List.length_take, List.length_drop]; show min k us4.length + 1 + _ ≤ 1000; omega))) fun b5 H11 s11 n11 h11 => fin _ _ _ _ _ _ ((J5.same (s69.trans (s10.trans s11))).put (Ms := Ls.take k ++ [[w]] ++ Ls.drop k) ⟨D10.free n11, _, h11, Paired.app (Paired.app (Paired.mapP P6 fun _ _ z => z.same (t12.trans (s9.trans (s10.trans s11)))) (.cons ⟨u1, rfl, u1d, (t2.trans (s9.trans (s10.trans s11))) _ _ g1⟩ .nil)) (Paired.mapP P10 fun _ _ z => z.same s11)⟩) ?_
        exact (Bd.put kl (.inl rfl) (List.cons_ne_nil _ _) (by show 1 ≤ _; omega) fun z hz => by rw [List.mem_singleton.mp hz]; exact wW).mono (by omega) (by omega)
      · -- a line is changed
        have kd7 : kd < 7 := hkd
        have rep3 : kd / 3 ≤ 2 := by omega
        refine ⟨_, rfl, _, rfl, la, _, (k : Nat), _, rfl, rfl, SqL.of hus, atI_nat hv, _, rfl, _, rfl, _, _, rfl, rfl, (by show (2 : Int) ≠ 0; decide), _, _, rfl, rfl, _, rfl, ?_⟩
        unfold tNoPart
        refine slL_case hu0 fun b1 H6 s6 n6 h6 => ?_
        rw [show cutV (l.map V.str) (some ((at_ : Nat) + Int.fmod (kd : Nat) 2 : Int)) none = (l.drop (at_ + kd % 2)).map V.str by
          rw [show Int.fmod ((kd : Nat) : Int) 2 = ((kd % 2 : Nat) : Int) from fmod_nat kd 2, show ((at_ : Nat) : Int) + ((kd % 2 : Nat) : Int) = ((at_ + kd % 2 : Nat) : Int) by omega, cut_from, List.map_drop]] at h6
        have J6 := J5.same s6
        replace hus := s6 _ _ hus
        replace hP : Paired (LnD d H6) us4 Ls := Paired.mapP hP fun _ _ z => z.same s6
        replace hu0 := s6 _ _ hu0
        clear J5 s6 n6
        refine ⟨_, rfl, _, rfl, la, _, (k : Nat), _, rfl, rfl, SqL.of hus, atI_nat hv, _, rfl, _, rfl, slL_case hu0 fun b2 H7 s7 n7 h7 => ?_⟩
        rw [show cutV (l.map V.str) none (some ((at_ : Nat) : Int)) = (l.take at_).map V.str by rw [cut_to, List.map_take]] at h7
        refine ⟨_, rfl, (by show 1 ≤ sizeLine; decide), fun c1 m1 => ⟨_, rfl, _, _, rfl, rfl, ⟨by decide, by decide⟩, ?_⟩⟩
        have t1 := same_upd (o := HO.lst [.str w]) m1
        have g1 := (upd_same : (L2.upd H7 c1 (.lst [.str w])) c1 = _)
        generalize (L2.upd H7 c1 (.lst [.str w])) = H8 at t1 g1
        refine ⟨c1, ((kd / 3 : Nat) : Int), _, rfl, congrArg V.int (fdiv_nat kd 3), g1, by omega, by omega, ?_, fun c2 m2 => ?_⟩
        · rw [show (((kd / 3 : Nat) : Int)).toNat = kd / 3 from Int.toNat_natCast _]
          exact Nat.le_of_lt (small1000 (by show 1 * (kd / 3) ≤ 1000; omega))
        rw [show (List.replicate (((kd / 3 : Nat) : Int)).toNat [V.str w]).flatten = (List.replicate (kd / 3) w).map V.str by
          rw [show (((kd / 3 : Nat) : Int)).toNat = kd / 3 from Int.toNat_natCast _]
          generalize kd / 3 = r
          induction r with
          | zero => rfl
          | succ r ih => rw [List.replicate_succ, List.flatten_cons, ih]; rfl]
        have t2 := same_upd (o := HO.lst ((List.replicate (kd / 3) w).map V.str)) m2
        have g2 := (upd_same : (L2.upd H8 c2 (.lst ((List.replicate (kd / 3) w).map V.str))) c2 = _)
        generalize (L2.upd H8 c2 (.lst ((List.replicate (kd / 3) w).map V.str))) = H9 at t2 g2
        have s79 := s7.trans (t1.trans t2)
        refine catL_case ((t1.trans t2) _ _ h7) g2 (Nat.le_of_lt (small1000 (by rw [List.length_map, List.length_map, List.length_take, List.length_replicate]; omega))) fun c3 H10 s10 n10 h10 => ?_
        have s710 := s79.trans s10
        refine ⟨_, rfl, catL_case h10 (s710 _ _ h6) (Nat.le_of_lt (small1000 (by rw [List.length_append, List.length_map, List.length_map, List.length_map, List.length_take, List.length_replicate, List.length_drop]; omega))) fun c4 H11 s11 n11 h11 => ?_⟩
        have ech : (l.take at_).map V.str ++ (List.replicate (kd / 3) w).map V.str ++ (l.drop (at_ + kd % 2)).map V.str = (chgL l at_ (kd % 2) (kd / 3) w).map V.str := by
          unfold chgL
          rw [List.map_append, List.map_append]
        rw [ech] at h11
        have c4d := ((J6.same s710).D).free n11
        have s711 := s710.trans s11
        have J11 := J6.same s711
        replace hus := s711 _ _ hus
        replace hP : Paired (LnD d H11) us4 Ls := Paired.mapP hP fun _ _ z => z.same s711
        clear J6 s7 t1 t2 s79 s10 s710 s11 s711 g1 g2 h6 h7 h10 m1 m2 n7 n10 n11 hu0 ech
        have gl : chgL l at_ (kd % 2) (kd / 3) w ≠ [] := chgL_ne lne (by
          by_cases z : 3 ≤ kd
          · exact .inl (by omega)
          · exact .inr (by omega))
        have gn : (chgL l at_ (kd % 2) (kd / 3) w).length ≤ 6 + 2 * (i + 1) := Nat.le_trans chgL_len (by omega)
        have gm := chgL_mem (at_ := at_) (c := kd % 2) (r := kd / 3) lw wW
        generalize chgL l at_ (kd % 2) (kd / 3) w = l2 at gl gn gm h11
        refine ⟨_, rfl, _, rfl, _, rfl, lsD_cut (fun l => l.take k) J11.D hus hP cut_to (Paired.take hP _) fun b1 H6 s6 D6 n6 h6 P6 => ?_⟩
        refine ⟨_, rfl, (by show 1 ≤ sizeLine; decide), fun b2 m2 => ?_⟩
        have t2 := same_upd (o := HO.lst [.ref c4]) m2
        have g2 := (upd_same : (L2.upd H6 b2 (.lst [.ref c4])) b2 = _)
        generalize (L2.upd H6 b2 (.lst [.ref c4])) = H8 at t2 g2
        refine catL_case (t2 _ _ h6) g2 (Nat.le_of_lt (small1000 (by rw [List.length_take]; show min k us4.length + 1 ≤ 1000; omega))) fun b3 H9 s9 n9 h9 => ?_
        have s69 := s6.trans (t2.trans s9)
        refine ⟨_, rfl, _, rfl, _, _, rfl, rfl, _, rfl, ?_⟩
        refine lsD_cut (fun l => l.drop (k + 1)) (J11.D.but s69) (s69 _ _ hus) (Paired.mapP hP fun _ _ z => z.same s69) hcut1 (Paired.mapP (Paired.dropK _ hP) fun _ _ z => z.same s69) fun b4 H10 s10 D10 n10 h10 P10 => ?_
        refine catL_case (s10 _ _ h9) h10 (Nat.le_of_lt (small1000 (by rw [List.length_append, List.length_take, List.length_drop]; show min k us4.length + 1 + _ ≤ 1000; omega))) fun b5 H12 s12 n12 h12 => fin _ _ _ _ _ _ ((J11.same (s69.trans (s10.trans s12))).put (Ms := Ls.take k ++ [l2] ++ Ls.drop (k + 1)) ⟨D10.free n12, _, h12, Paired.app (Paired.app (Paired.mapP P6 fun _ _ z => z.same (t2.trans (s9.trans (s10.trans s12)))) (.cons ⟨c4, rfl, c4d, (s69.trans (s10.trans s12)) _ _ h11⟩ .nil)) (Paired.mapP P10 fun _ _ z => z.same s12)⟩) ?_
        exact ((Bd.mono (Nat.le_refl _) (by omega)).put1 kl gl gn gm).mono (by omega) (by omega)
    rintro σ H1 ⟨la, Ls, x4, x5, x6, x7, x8, x9, x10, rfl, J, Bd⟩
    have Bd : LsB WL 5 10 Ls := Bd.mono (by rw [Int.toNat_natCast]; omega) (by rw [Int.toNat_natCast]; omega)
    clear J9 B8 hn2
    refine ⟨fun σ' H' => ∃ (la : Addr) (Ls : List (List Str)) (x4 x5 x6 x7 x8 x9 x10 : Option V), σ' = [some (.ref a), some (.ref d), some (.ref la), some (.ref wl), x4, x5, x6, x7, x8, x9, x10, none, none, none, none, none, none, none] ∧ J18 d wl Pt qL la Ls H' ∧ LsB WL 5 10 Ls, ?_, ?_⟩
    · refine ⟨_, rfl, d, 5, rfl, J.D, by decide, by decide, fun H2 r hr b2 D2 => ⟨rfl, _, rfl, ?_⟩⟩
      have J2 := J.butD b2 D2
      clear J b2 D2
      refine ite2 (fun _ => ?_) (fun _ => ⟨la, Ls, _, _, _, _, _, _, _, rfl, J2, Bd⟩)
      obtain ⟨_, us, hus, hP⟩ := id J2.L
      have ul := hP.length
      have lpos : 0 < Ls.length := List.length_pos_iff.mpr Bd.ne
      have l5 := Bd.len
      refine ⟨_, rfl, _, rfl, la, us, rfl, .inl (SqL.of hus), d, us.length, rfl, J2.D, by omega, by omega, fun H3 k hk b3 D3 => ?_⟩
      have J3 := J2.butD b3 D3
      replace hus := b3 _ _ J2.L.1 hus
      replace hP : Paired (LnD d H3) us Ls := Paired.mapP hP fun _ _ z => z.but b3
      clear J2 b3 D3
      have kl : k < Ls.length := by omega
      have ek := List.getElem?_eq_getElem kl
      obtain ⟨v, hv, u, rfl, ud, hu0⟩ := Paired.get? (i := k) hP ek
      obtain ⟨lne, lm, lw⟩ := Bd.ln _ (List.mem_of_getElem? ek)
      generalize hlk : Ls[k] = l at ek hu0 lne lm lw
      have hcut1 : cutV us (some ((k : Nat) + 1 : Int)) none = us.drop (k + 1) := by
        rw [show ((k : Nat) : Int) + 1 = ((k + 1 : Nat) : Int) by omega]
        exact cut_from
      refine ⟨_, rfl, _, rfl, _, rfl, lsD_cut (fun l => l.take k) J3.D hus hP cut_to (Paired.take hP _) fun b1 H6 s6 D6 n6 h6 P6 => ?_⟩
      refine ⟨_, rfl, _, rfl, la, _, (k : Nat), _, rfl, rfl, SqL.of (s6 _ _ hus), atI_nat hv, _, rfl, _, rfl, slL_case (s6 _ _ hu0) fun b2 H7 s7 n7 h7 => ?_⟩
      rw [show cutV (l.map V.str) none (some (-1 : Int)) = l.dropLast.map V.str from cut_dropLast lne] at h7
      refine ⟨(by show 3 ≤ sizeLine; decide), fun c1 m1 => ?_⟩
      have t1 := same_upd (o := HO.lst [.str "07", .str "00", .str "01"]) m1
      have g1 := (upd_same : (L2.upd H7 c1 (.lst [.str "07", .str "00", .str "01"])) c1 = _)
      generalize (L2.upd H7 c1 (.lst [.str "07", .str "00", .str "01"])) = H8 at t1 g1
      have c1d := (D6.but s7).free m1
      have b2d := D6.free n7
      have s78 := s7.trans t1
      have s68 := s6.trans s78
      refine ⟨_, rfl, d, 3, rfl, D6.but s78, by decide, by decide, fun H9 wi hwi b9 D9 => ?_⟩
      have J9 := (J3.same s68).butD b9 D9
      replace hus := b9 _ _ J3.L.1 (s68 _ _ hus)
      replace hP : Paired (LnD d H9) us Ls := Paired.mapP hP fun _ _ z => (z.same s68).but b9
      replace g1 := b9 _ _ c1d g1
      replace h7 := b9 _ _ b2d (t1 _ _ h7)
      replace h6 := b9 _ _ n6 (s78 _ _ h6)
      replace P6 : Paired (LnD d H9) (us.take k) (Ls.take k) := Paired.mapP P6 fun _ _ z => (z.same s78).but b9
      obtain ⟨w, hw, wW⟩ : ∃ w, ([.str "07", .str "00", .str "01"] : List V)[wi]? = some (.str w) ∧ w ∈ WL := by
        match wi, hwi with
        | 0, _ => exact ⟨"07", rfl, by decide +kernel⟩
        | 1, _ => exact ⟨"00", rfl, by decide +kernel⟩
        | 2, _ => exact ⟨"01", rfl, by decide +kernel⟩
        | r + 3, hz => exact absurd hz (by omega)
      clear J3 s6 s7 t1 s78 s68 b9 hu0 D6
      refine ⟨c1, _, (wi : Nat), .str w, rfl, rfl, SqL.of g1, atI_nat hw, (by show 1 ≤ sizeLine; decide), fun c2 m2 => ?_⟩
      have t2 := same_upd (o := HO.lst [.str w]) m2
      have g2 := (upd_same : (L2.upd H9 c2 (.lst [.str w])) c2 = _)
      generalize (L2.upd H9 c2 (.lst [.str w])) = H10 at t2 g2
      refine catL_case (t2 _ _ h7) g2 (Nat.le_of_lt (small1000 (by rw [List.length_map, List.length_dropLast]; show l.length - 1 + 1 ≤ 1000; omega))) fun c3 H11 s11 n11 h11 => ⟨(by show 1 ≤ sizeLine; decide), fun c4 m4 => ?_⟩
      have c3d := (D9.but t2).free n11
      rw [show l.dropLast.map V.str ++ [V.str w] = (l.dropLast ++ [w]).map V.str by rw [List.map_append]; rfl] at h11
      have t4 := same_upd (o := HO.lst [.ref c3]) m4
      have g4 := (upd_same : (L2.upd H11 c4 (.lst [.ref c3])) c4 = _)
      generalize (L2.upd H11 c4 (.lst [.ref c3])) = H12 at t4 g4
      have s912 := t2.trans (s11.trans t4)
      refine catL_case (s912 _ _ h6) g4 (Nat.le_of_lt (small1000 (by rw [List.length_take]; show min k us.length + 1 ≤ 1000; omega))) fun c5 H13 s13 n13 h13 => ?_
      have s913 := s912.trans s13
      refine ⟨_, rfl, _, rfl, _, _, rfl, rfl, _, rfl, ?_⟩
      unfold tNoPart
      refine lsD_cut (fun l => l.drop (k + 1)) (D9.but s913) (s913 _ _ hus) (Paired.mapP hP fun _ _ z => z.same s913) hcut1 (Paired.mapP (Paired.dropK _ hP) fun _ _ z => z.same s913) fun c6 H14 s14 D14 n14 h14 P14 => ?_
      refine catL_case (s14 _ _ h13) h14 (Nat.le_of_lt (small1000 (by rw [List.length_append, List.length_take, List.length_drop]; show min k us.length + 1 + _ ≤ 1000; omega))) fun c7 H15 s15 n15 h15 => ⟨c7, Ls.take k ++ [l.dropLast ++ [w]] ++ Ls.drop (k + 1), _, _, _, _, _, _, _, rfl, (J9.same (s913.trans (s14.trans s15))).put ⟨D14.free n15, _, h15, Paired.app (Paired.app (Paired.mapP P6 fun _ _ z => z.same (s913.trans (s14.trans s15))) (.cons ⟨c3, rfl, c3d, (t4.trans (s13.trans (s14.trans s15))) _ _ h11⟩ .nil)) (Paired.mapP P14 fun _ _ z => z.same s15)⟩, ?_⟩
      refine Bd.put1 kl (by simp) ?_ fun z hz => ?_
      · rw [List.length_append, List.length_dropLast, List.length_singleton]
        omega
      · rcases List.mem_append.mp hz with y | y
        · exact lw z (List.dropLast_subset _ y)
        · rw [List.mem_singleton.mp y]
          exact wW
    clear J Bd
    rintro σ H1 ⟨la, Ls, x4, x5, x6, x7, x8, x9, x10, rfl, J, Bd⟩
    have G := Bd.good (by decide) (by decide) fun w hw => Cp.wl hw
    -- the text
    obtain ⟨us, hus, hP⟩ := J.L.at
    have T1 := J.T
    have ul := hP.length
    have l60 := G.len
    have l5 := Bd.len
    clear J Bd
    refine ⟨⟨_, rfl⟩, _, rfl, la, rfl, ⟨_, SqL.of hus⟩, fun D nD => ?_⟩
    refine lc_list (K := K) (a := la) (xs := us) (fun k H' => Same H1 H' ∧ H' D = some (.lst (((Ls.take k).map lineW).map V.str))) ⟨same_upd nD, upd_same⟩ (fun k H' _ ⟨s', _⟩ => SqL.of (s' _ _ hus)) ?_ ?_
    · rintro k v H' hk ⟨s', hD⟩
      have lt : k < Ls.length := by rw [← ul]; exact (List.getElem?_eq_some_iff.mp hk).1
      have ek := List.getElem?_eq_getElem lt
      obtain ⟨v', hv', u, ev, hu0⟩ := Paired.get? (i := k) hP ek
      obtain rfl : v' = v := Option.some.inj (hv'.symm.trans hk)
      subst ev
      have hm := List.mem_of_getElem? ek
      generalize Ls[k] = l at ek hu0 hm
      refine ⟨rfl, ⟨_, rfl⟩, _, rfl, " ", u, l, rfl, rfl, .inl (SqL.of (s' _ _ hu0)), Nat.le_trans (G.lsum hm) (by decide), _, hD, ?_, fun b o e => ?_, ?_⟩
      · rw [List.length_map, List.length_map, List.length_take]
        exact small1000 (by omega)
      · rw [upd_ne (ne_of_none e nD)]
        exact s' _ _ e
      · rw [upd_same, List.take_add_one, ek, List.map_append, List.map_append]
        rfl
    rintro H2 ⟨s2, hD⟩
    rw [ul, List.take_length] at hD
    refine ⟨"\n", D, Ls.map lineW, rfl, rfl, .inl (SqL.of hD), Nat.le_trans G.tsum (by decide), ?_⟩
    rw [show Txt.join "\n" (Ls.map lineW) = textW Ls from rfl]
    have T2 := tabs_same T1 s2
    clear nD hD s2 T1 hus hP ul us
    -- its rows
    refine ⟨_, rfl, ⟨_, rfl⟩, textW Ls, "\n", rfl, rfl, rfl, by have := G.tlen; rw [sizeLine_eq]; omega, fun p np => ?_⟩
    rw [G.lines]
    have s3 := same_upd (o := HO.lst ((Ls.map lineW).map V.str)) np
    have hp := (upd_same : (L2.upd H2 p (.lst ((Ls.map lineW).map V.str))) p = _)
    generalize (L2.upd H2 p (.lst ((Ls.map lineW).map V.str))) = H3 at s3 hp
    refine ⟨p, rfl, ⟨_, SqL.of hp⟩, fun D nD => ?_⟩
    refine lc_list (K := K) (a := p) (xs := (Ls.map lineW).map V.str) (fun k H' => Same H3 H' ∧ ∃ us, H' D = some (.lst us) ∧ Paired (LnD D H') us (Ls.take k)) ⟨same_upd nD, [], upd_same, .nil⟩ (fun k H' _ ⟨s', _⟩ => SqL.of (s' _ _ hp)) ?_ ?_
    · rintro k v H' hk ⟨s', us, hD, hP⟩
      rw [List.getElem?_map, List.getElem?_map] at hk
      obtain ⟨y, hy, rfl⟩ := Option.map_eq_some_iff.mp hk
      obtain ⟨l, hl, rfl⟩ := Option.map_eq_some_iff.mp hy
      have hm := List.mem_of_getElem? hl
      refine ⟨rfl, _, rfl, ⟨_, rfl⟩, lineW l, " ", rfl, rfl, rfl, by have := G.llen hm; rw [sizeLine_eq]; omega, fun u nu => ?_⟩
      rw [G.line hm]
      have s4 := same_upd (o := HO.lst (l.map V.str)) nu
      have hu0 := (upd_same : (L2.upd H' u (.lst (l.map V.str))) u = _)
      generalize (L2.upd H' u (.lst (l.map V.str))) = H5 at s4 hu0
      have uD : u ≠ D := fun z => by rw [z, hD] at nu; cases nu
      refine ⟨us, s4 _ _ hD, ?_, fun b o e => ?_, us ++ [.ref u], upd_same, ?_⟩
      · rw [hP.length, List.length_take]
        exact small1000 (by omega)
      · rw [upd_ne (ne_of_none e nD)]
        exact s4 _ _ (s' _ _ e)
      · rw [List.take_add_one, hl]
        exact Paired.snoc (Paired.mapP hP fun _ _ z => (z.same s4).but .upd) ⟨u, rfl, uD, (upd_ne uD).trans hu0⟩
    rintro H4 ⟨s4, us, hus, hP⟩
    rw [List.length_map, List.length_map, List.take_length] at hP
    replace hP : Paired (LnAt H4) us Ls := Paired.mapP hP fun _ _ ⟨u, e, _, hu⟩ => ⟨u, e, hu⟩
    have T4 := tabs_same T2 (s3.trans s4)
    clear T2 s3 s4 nD np hp
    -- its fault
    refine ⟨_, rfl, D, Ls, rfl, ⟨us, hus, hP⟩, G, fun H5 o s5 hF => ?_⟩
    replace hus := s5 _ _ hus
    replace hP : Paired (LnAt H5) us Ls := Paired.mapP hP fun _ _ z => z.same s5
    have T5 := tabs_same T4 s5
    clear T4 s5
    have l100 : (Txt.split (textW Ls) "\n").length ≤ 100 := by rw [G.lines, List.length_map]; omega
    have tl : (textW Ls).length ≤ 100000 := Nat.le_trans G.tlen (by decide)
    cases o with
    | some k =>
      obtain ⟨⟨bad, hb1, hb2⟩, hok⟩ := hF
      have hbm := List.mem_of_getElem? hb1
      refine ⟨_, rfl, rfl, _, rfl, iteT ?_⟩
      refine ⟨T5, fun H6 e6 T6 => ?_⟩
      refine ⟨rfl, _, rfl, textW Ls, rfl, tl, .inl ⟨k, lineW bad, l100, fun i l hi hl => ?_, ?_, G.lbad hbm hb2, fun d H7 s7 hd => ?_⟩⟩
      · rw [G.lines, List.getElem?_map] at hl
        obtain ⟨l', hl', rfl⟩ := Option.map_eq_some_iff.mp hl
        obtain ⟨r, hr⟩ := hok i l' hi hl'
        exact ⟨r, G.lok (List.mem_of_getElem? hl') hr⟩
      · rw [G.lines, List.getElem?_map, hb1]
        rfl
      · refine ⟨cE 12, 12, rfl, e12, .inr (.inr (.inl ⟨rfl, xc12, xf3, d, k, rfl, hd, fun u H8 s8 hu => ?_⟩))⟩
        exact text_lit hu (fun q z => ⟨_, rfl, z⟩) fun H9 _ => qz H9
    | none =>
    refine ⟨_, rfl, rfl, _, rfl, iteF ?_⟩
    cases Ls with
    | nil => exact absurd rfl G.ne
    | cons l0 Lr =>
    have hfn := flt_none hF
    -- its numbers
    have ul := hP.length
    refine ⟨_, rfl, D, rfl, ⟨_, SqL.of hus⟩, fun N nN => ?_⟩
    refine lc_list (K := K) (a := D) (xs := us) (fun k H' => Same H5 H' ∧ ∃ vs, H' N = some (.lst vs) ∧ Paired (NumN N H') vs (((l0 :: Lr).take k).map rowN)) ⟨same_upd nN, [], upd_same, .nil⟩ (fun k H' _ ⟨s', _⟩ => SqL.of (s' _ _ hus)) ?_ ?_
    · rintro k v H' hk ⟨s', vs, hN, hV⟩
      have lt : k < (l0 :: Lr).length := by rw [← ul]; exact (List.getElem?_eq_some_iff.mp hk).1
      have ek := List.getElem?_eq_getElem lt
      obtain ⟨v', hv', u, ev, hu0⟩ := Paired.get? (i := k) hP ek
      obtain rfl : v' = v := Option.some.inj (hv'.symm.trans hk)
      subst ev
      obtain ⟨r, hr⟩ := hF k _ ek
      have hm := List.mem_of_getElem? ek
      generalize (l0 :: Lr)[k] = l at ek hu0 hr hm
      obtain ⟨w, ws, rfl, _, hws, hsome, _⟩ := rowW_some hr
      have hw40 : ws.length ≤ 40 := by have := (G.ln _ hm).2.1; rw [List.length_cons] at this; omega
      have hwg : ∀ z ∈ ws, WG z := fun z hz => (G.ln _ hm).2.2 z (List.mem_cons_of_mem _ hz)
      refine ⟨rfl, _, rfl, 1, rfl, u, _, rfl, SqL.of (s' _ _ hu0), fun cl ncl => ?_⟩
      rw [show cutV ((w :: ws).map V.str) (some (1 : Int)) none = ((w :: ws).map V.str).drop 1 from cut_from (n := 1), show ((w :: ws).map V.str).drop 1 = ws.map V.str from rfl]
      have s6 := same_upd (o := HO.lst (ws.map V.str)) ncl
      have hcl := (upd_same : (L2.upd H' cl (.lst (ws.map V.str))) cl = _)
      generalize (L2.upd H' cl (.lst (ws.map V.str))) = H6 at s6 hcl
      refine ⟨cl, rfl, ⟨_, SqL.of hcl⟩, fun M nM => ?_⟩
      refine lc_list (K := K) (a := cl) (xs := ws.map V.str) (fun j H' => Same H6 H' ∧ H' M = some (.lst (nints ((ws.take j).filterMap valW)))) ⟨same_upd nM, upd_same⟩ (fun j H' _ ⟨s', _⟩ => SqL.of (s' _ _ hcl)) ?_ ?_
      · rintro j v H7 hj ⟨s7, hM⟩
        rw [List.getElem?_map] at hj
        obtain ⟨z, hz, rfl⟩ := Option.map_eq_some_iff.mp hj
        have hzm := List.mem_of_getElem? hz
        have gz := hwg z hzm
        have hzs := hsome z hzm
        cases ez : valW z with
        | none => rw [ez] at hzs; cases hzs
        | some n =>
          refine ⟨rfl, _, rfl, z, (n : Int), rfl, gz.wk.int n ez, gz.wk.len, _, hM, ?_, fun b o e => ?_, ?_⟩
          · unfold nints
            rw [List.length_map]
            exact small1000 (Nat.le_trans (List.length_filterMap_le _ _) (by rw [List.length_take]; omega))
          · rw [upd_ne (ne_of_none e nM)]
            exact s7 _ _ e
          · rw [upd_same, List.take_add_one, hz, List.filterMap_append]
            unfold nints
            rw [List.map_append, show (some z).toList.filterMap valW = [n] by simp [ez]]
            rfl
      rintro H7 ⟨s7, hM⟩
      rw [List.length_map, List.take_of_length_le (Nat.le_refl _)] at hM
      have s67 := s6.trans s7
      have MN : M ≠ N := fun z => by
        rw [z, s6 _ _ hN] at nM
        cases nM
      refine ⟨vs, s67 _ _ hN, ?_, fun b o e => ?_, vs ++ [.ref M], upd_same, ?_⟩
      · rw [hV.length, List.length_map, List.length_take]
        exact small1000 (by omega)
      · rw [upd_ne (ne_of_none e nN)]
        exact s67 _ _ (s' _ _ e)
      · rw [List.take_add_one, ek, List.map_append]
        exact Paired.snoc (Paired.mapP hV fun _ _ ⟨u, e, n, hu⟩ => ⟨u, e, n, (upd_ne n).trans (s67 _ _ hu)⟩) ⟨M, rfl, MN, (upd_ne MN).trans hM⟩
    rintro H6 ⟨s6, vs, hN, hV⟩
    rw [ul, List.take_length] at hV
    replace hV : Paired (NumAt H6) vs ((l0 :: Lr).map rowN) := Paired.mapP hV fun _ _ ⟨u, e, _, hu⟩ => ⟨u, e, hu⟩
    have T6 := tabs_same T5 s6
    clear T5 s6 nN hus hP ul
    -- the parts
    obtain ⟨⟨w1, w2, p, h, _, _, _, en⟩, h5⟩ := hfn
    rw [List.map_cons] at hV
    have h5r : ∀ r ∈ Lr.map rowN, r.length = 5 := fun r hr => by
      obtain ⟨l, hl, rfl⟩ := List.mem_map.mp hr
      obtain ⟨_, _, _, _, z⟩ := h5 l hl
      exact z
    have lrl : (Lr.map rowN).length ≤ 20 := by
      rw [List.length_map]
      rw [List.length_cons] at l60
      rw [List.length_cons] at l5
      omega
    have lok : ∀ k l r, (Txt.split (textW (l0 :: Lr)) "\n")[k]? = some l → ([p, h] :: Lr.map rowN)[k]? = some r → LineOk k l r := fun k l r hl hr => by
      rw [G.lines, List.getElem?_map] at hl
      obtain ⟨l', hl', rfl⟩ := Option.map_eq_some_iff.mp hl
      obtain ⟨r', hr'⟩ := hF k l' hl'
      have lk := G.lok (List.mem_of_getElem? hl') hr'
      obtain ⟨_, _, _, _, _, _, rfl⟩ := rowW_some hr'
      rw [← en, ← List.map_cons, List.getElem?_map, hl'] at hr
      obtain rfl := Option.some.inj hr
      exact lk
    have tsl : (Txt.split (textW (l0 :: Lr)) "\n").length = (Lr.map rowN).length + 1 := by
      rw [G.lines, List.length_map, List.length_map]
      rfl
    rw [en] at hV
    generalize hrows : Lr.map rowN = rows at hV h5r lrl lok tsl
    cases hV with
    | cons hv0 hV =>
    rename_i v0 vs
    obtain ⟨u0, rfl, hu0⟩ := hv0
    refine ⟨_, rfl, N, _, 0, _, rfl, rfl, SqL.of hN, atI_nat (j := 0) rfl, u0, _, 0, _, rfl, rfl, SqL.of hu0, atI_nat (j := 0) rfl, ?_⟩
    refine ⟨_, rfl, N, _, 0, _, rfl, rfl, SqL.of hN, atI_nat (j := 0) rfl, u0, _, 1, _, rfl, rfl, SqL.of hu0, atI_nat (j := 1) rfl, ?_⟩
    refine ⟨_, rfl, 1, rfl, N, _, rfl, SqL.of hN, fun cl ncl => ?_⟩
    rw [show cutV (V.ref u0 :: vs) (some (1 : Int)) none = (V.ref u0 :: vs).drop 1 from cut_from (n := 1), show (V.ref u0 :: vs).drop 1 = vs from rfl]
    have s7 := same_upd (o := HO.lst vs) ncl
    have hcl := (upd_same : (L2.upd H6 cl (.lst vs)) cl = _)
    generalize (L2.upd H6 cl (.lst vs)) = H7 at s7 hcl
    replace hV : Paired (NumAt H7) vs rows := Paired.mapP hV fun _ _ z => z.same s7
    have vl := hV.length
    refine ⟨cl, rfl, ⟨_, SqL.of hcl⟩, fun M nM => ?_⟩
    refine lc_list (K := K) (a := cl) (xs := vs) (fun k H' => Same H7 H' ∧ ∃ us, H' M = some (.lst us) ∧ Paired (RowTup H') us (rows.take k)) ⟨same_upd nM, [], upd_same, .nil⟩ (fun k H' _ ⟨s', _⟩ => SqL.of (s' _ _ hcl)) ?_ ?_
    · rintro k v H' hk ⟨s', us, hM, hU⟩
      have lt : k < rows.length := by rw [← vl]; exact (List.getElem?_eq_some_iff.mp hk).1
      have ek := List.getElem?_eq_getElem lt
      obtain ⟨v', hv', u, ev, hu1⟩ := Paired.get? (i := k) hV ek
      obtain rfl : v' = v := Option.some.inj (hv'.symm.trans hk)
      subst ev
      generalize rows[k] = r at ek hu1
      refine ⟨rfl, _, rfl, u, _, rfl, .inl ⟨SqL.of (s' _ _ hu1), fun t nt => ?_⟩⟩
      have s8 := same_upd (o := HO.tup (nints r)) nt
      have ht := (upd_same : (L2.upd H' t (.tup (nints r))) t = _)
      generalize (L2.upd H' t (.tup (nints r))) = H8 at s8 ht
      have hM8 := s8 _ _ hM
      have k9 := TupKeep.lst (o := HO.lst (us ++ [.ref t])) hM8
      refine ⟨us, hM8, ?_, fun b o e => ?_, us ++ [.ref t], upd_same, ?_⟩
      · rw [hU.length, List.length_take]
        exact small1000 (by omega)
      · rw [upd_ne (ne_of_none e nM)]
        exact s8 _ _ (s' _ _ e)
      · rw [List.take_add_one, ek]
        exact Paired.snoc (Paired.mapP hU fun _ _ z => z.keep ((tk_of s8).trans k9)) ⟨t, rfl, k9 _ _ ht⟩
    rintro H8 ⟨s8, us, hM, hU⟩
    rw [vl, List.take_length] at hU
    refine ⟨M, us, rfl, .inl ⟨SqL.of hM, fun t nt => ?_⟩⟩
    have s9 := same_upd (o := HO.tup us) nt
    have ht := (upd_same : (L2.upd H8 t (.tup us)) t = _)
    generalize (L2.upd H8 t (.tup us)) = H9 at s9 ht
    refine ⟨(by show 3 ≤ sizeLine; decide), fun a9 n9 => ?_⟩
    have s10 := same_upd (o := HO.tup [.int (p : Nat), .int (h : Nat), .ref t]) n9
    have ha9 := (upd_same : (L2.upd H9 a9 (.tup [.int (p : Nat), .int (h : Nat), .ref t])) a9 = _)
    generalize (L2.upd H9 a9 (.tup [.int (p : Nat), .int (h : Nat), .ref t])) = H10 at s10 ha9
    replace ht := s10 _ _ ht
    replace hU : Paired (RowTup H10) us rows := Paired.mapP hU fun _ _ z => z.keep (tk_of (s9.trans s10))
    have T10 := tabs_same T6 (s7.trans (s8.trans (s9.trans s10)))
    clear T6 s7 s8 s9 s10 hV hM hcl hN hu0 nM ncl nt n9
    -- a net, or none
    rcases net_cases (K := K) p h rows h5r lrl with ok | ⟨part, i, hpo, hi20, hbad⟩
    · refine ⟨T10, fun H11 e11' T11 => ?_⟩
      have ht := ExtN.tk e11' _ _ ht
      have ha9 := ExtN.tk e11' _ _ ha9
      have hO : OrdsTup H11 t (rows.map odR) := ⟨us, ht, rows_ods (Paired.mapP hU fun _ _ z => z.keep (ExtN.tk e11')) h5r⟩
      refine ⟨_, rfl, .inl ⟨a9, t, p, h, rows.map odR, rfl, ha9, hO, ok, fun H12 x F s12 nF Nn => ⟨_, rfl, rfl, _, rfl, iteF ?_⟩⟩⟩
      subst hrows
      rw [text_back G hF en ok]
      refine ⟨rfl, _, rfl, p, h, _, rfl, ok, fun H13 x t2 F2 s13 nF2 N13 => ?_⟩
      obtain ⟨dx, _, _, _, hx, _⟩ := id N13
      refine ⟨x, dx, _, rfl, hx, x, t2, p, h, _, F2, rfl, N13, ok, fun H14 s14 => ⟨_, rfl, rfl, ?_⟩⟩
      rw [decide_eq_true rfl]
      exact qz _
    · refine ⟨T10, fun H11 e11' T11 => ?_⟩
      have ht11 := ExtN.tk e11' _ _ ht
      have ha11 := ExtN.tk e11' _ _ ha9
      refine ⟨_, rfl, .inr ⟨a9, t, p, h, rfl, ha11, fun H12 x s12 => (hbad H12 t us (s12 _ _ ht11) (Paired.mapP hU fun _ _ z => z.keep (ExtN.tk (fun b o e n => s12 _ _ (e11' b o e n)))) ).init fun d H13 s13 hd => ?_⟩⟩
      refine ⟨cE 11, 11, rfl, e11, .inr (.inl ⟨rfl, xc11, xf1, xf2, d, part, i, rfl, hd, fun u v H14 s14 hv hu => ⟨_, rfl, rfl, _, rfl, iteT ?_⟩⟩)⟩
      have T14 := tabs_same T11 (s12.trans (s13.trans s14))
      refine ⟨T14, fun H15 e15 T15 => ?_⟩
      have hv15 := ExtN.tk e15 _ _ hv
      have hu15 := ExtN.tk e15 _ _ hu
      refine ⟨rfl, _, rfl, textW (l0 :: Lr), rfl, tl, .inr ⟨p, h, rows, tsl, by omega, lok, fun H16 x2 t2 us2 s16 ht2 hU2 => (hbad H16 t2 us2 ht2 hU2).init fun d2 H17 s17 hd2 => ?_⟩⟩
      refine ⟨cE 11, 11, rfl, e11, .inr (.inl ⟨rfl, xc11, xf1, xf2, d2, part, i, rfl, hd2, fun u2 v2 H18 s18 hv2 hu2 => ?_⟩)⟩
      have s := s16.trans (s17.trans s18)
      exact ⟨_, rfl, net_same hpo hu2 hv2 (s _ _ hu15) (s _ _ hv15) (qz _)⟩
end
set_option maxHeartbeats 0 in
theorem all_mk {l : PySem.W.OpenLaw} {w : World} {K : PySem.W.Frag} {h : Heap} {mg : Str → Option Value} {fa : Addr} (X : K.In h) (G : h.Ns mainGlobals mg) (hfa : mg "law" = some (.ref fa)) (own : LamX.OwnTab K fa h)
    {C_Net : Addr}
    {cL PL : Addr} {ecL : Value} {dcL : Option Addr} {vsL : Array Value} {slcL : Array (Option Value)}
    {f1 : Addr} {od1 an1 : Option Addr} {sl1 : Array (Option Value)} {oc1 kV1 dc1 pm1 cd1 ct1 : Value}
    {f2 : Addr} {od2 an2 : Option Addr} {sl2 : Array (Option Value)} {oc2 kV2 dc2 pm2 cd2 ct2 : Value}
    {f3 : Addr} {od3 an3 : Option Addr} {sl3 : Array (Option Value)} {oc3 kV3 dc3 pm3 cd3 ct3 : Value}
    {f4 : Addr} {od4 an4 : Option Addr} {sl4 : Array (Option Value)} {oc4 kV4 dc4 pm4 cd4 ct4 : Value}
    {f5 : Addr} {od5 an5 : Option Addr} {sl5 : Array (Option Value)} {oc5 kV5 dc5 pm5 cd5 ct5 : Value}
    {f6 : Addr} {od6 an6 : Option Addr} {sl6 : Array (Option Value)} {oc6 kV6 dc6 pm6 cd6 ct6 : Value}
    {f7 : Addr} {od7 an7 : Option Addr} {sl7 : Array (Option Value)} {oc7 kV7 dc7 pm7 cd7 ct7 : Value}
    {f8 : Addr} {od8 an8 : Option Addr} {sl8 : Array (Option Value)} {oc8 kV8 dc8 pm8 cd8 ct8 : Value}
    {f9 : Addr} {od9 an9 : Option Addr} {sl9 : Array (Option Value)} {oc9 kV9 dc9 pm9 cd9 ct9 : Value}
    {f10 : Addr} {od10 an10 : Option Addr} {sl10 : Array (Option Value)} {oc10 kV10 dc10 pm10 cd10 ct10 : Value}
    {f11 : Addr} {od11 an11 : Option Addr} {sl11 : Array (Option Value)} {oc11 kV11 dc11 pm11 cd11 ct11 : Value}
    {f12 : Addr} {od12 an12 : Option Addr} {sl12 : Array (Option Value)} {oc12 kV12 dc12 pm12 cd12 ct12 : Value}
    {f13 : Addr} {od13 an13 : Option Addr} {sl13 : Array (Option Value)} {oc13 kV13 dc13 pm13 cd13 ct13 : Value}
    {f14 : Addr} {od14 an14 : Option Addr} {sl14 : Array (Option Value)} {oc14 kV14 dc14 pm14 cd14 ct14 : Value}
    {f15 : Addr} {od15 an15 : Option Addr} {sl15 : Array (Option Value)} {oc15 kV15 dc15 pm15 ct15 : Value}
    {f16 : Addr} {od16 an16 : Option Addr} {sl16 : Array (Option Value)} {oc16 kV16 dc16 pm16 cd16 ct16 : Value}
    {f17 : Addr} {od17 an17 : Option Addr} {sl17 : Array (Option Value)} {oc17 kV17 dc17 pm17 cd17 ct17 : Value}
    {p17 : Addr} {pr17 : List Value}
    {f18 : Addr} {od18 an18 : Option Addr} {sl18 : Array (Option Value)} {oc18 kV18 dc18 pm18 cd18 ct18 : Value} {p18 : Addr} {pr18 : List Value}
    {tkLONGEST_PERIOD : Tok}
    {tkMOST_HOUSES : Tok}
    {tkMOST_ORDERS : Tok}
    {tkLONGEST_DELAY : Tok}
    {tkMOST_DIGITS : Tok}
    {CP E0 E1 E2 E3 E4 E5 E6 E7 E8 E9 E10 E11 E12 E13 E14 : Addr}
    {fS11 cdaS11 ccS11 : Addr} {odS11 anS11 cldS11 cddS11 : Option Addr} {slS11 cslS11 ccsS11 : Array (Option Value)} {vsS11 : Array Value} {ocS11 kVS11 dcS11 pmS11 ctS11 clS11 cclS11 : Value} {fileS11 : Str} {tfS11 : Tok}
    {fS12 cdaS12 ccS12 : Addr} {odS12 anS12 cldS12 cddS12 : Option Addr} {slS12 cslS12 ccsS12 : Array (Option Value)} {vsS12 : Array Value} {ocS12 kVS12 dcS12 pmS12 ctS12 clS12 cclS12 : Value} {fileS12 : Str} {tfS12 : Tok}
    (aCNet : PySem.W.nsIn K mainGlobals "Net" = some (some (.ref C_Net)))
    (a1 : PySem.W.nsIn K mainGlobals "is_integer" = some (some (.ref f1)))
    (l1 : K.lookup f1 = some ⟨oc1, od1, .func (PySem.W.fnOf "is_integer" "is_integer" (defArgs s_is_integer) (defBody s_is_integer) (defScope s_is_integer) .none kV1 dc1 pm1 an1 cd1 ct1), sl1⟩)
    (c1 : PySem.W.codeIn K cd1 "is_integer" = true)
    (k1 : PySem.W.keepIn K (.ref f1) = true)
    (a2 : PySem.W.nsIn K mainGlobals "is_within" = some (some (.ref f2)))
    (l2 : K.lookup f2 = some ⟨oc2, od2, .func (PySem.W.fnOf "is_within" "is_within" (defArgs s_is_within) (defBody s_is_within) (defScope s_is_within) .none kV2 dc2 pm2 an2 cd2 ct2), sl2⟩)
    (c2 : PySem.W.codeIn K cd2 "is_within" = true)
    (k2 : PySem.W.keepIn K (.ref f2) = true)
    (a3 : PySem.W.nsIn K mainGlobals "is_order" = some (some (.ref f3)))
    (l3 : K.lookup f3 = some ⟨oc3, od3, .func (PySem.W.fnOf "is_order" "is_order" (defArgs s_is_order) (defBody s_is_order) (defScope s_is_order) .none kV3 dc3 pm3 an3 cd3 ct3), sl3⟩)
    (c3 : PySem.W.codeIn K cd3 "is_order" = true)
    (k3 : PySem.W.keepIn K (.ref f3) = true)
    (a4 : PySem.W.nsIn K mainGlobals "check_orders" = some (some (.ref f4)))
    (l4 : K.lookup f4 = some ⟨oc4, od4, .func (PySem.W.fnOf "check_orders" "check_orders" (defArgs s_check_orders) (defBody s_check_orders) (defScope s_check_orders) .none kV4 dc4 pm4 an4 cd4 ct4), sl4⟩)
    (c4 : PySem.W.codeIn K cd4 "check_orders" = true)
    (k4 : PySem.W.keepIn K (.ref f4) = true)
    (a5 : PySem.W.nsIn K mainGlobals "find_followed" = some (some (.ref f5)))
    (l5 : K.lookup f5 = some ⟨oc5, od5, .func (PySem.W.fnOf "find_followed" "find_followed" (defArgs s_find_followed) (defBody s_find_followed) (defScope s_find_followed) .none kV5 dc5 pm5 an5 cd5 ct5), sl5⟩)
    (c5 : PySem.W.codeIn K cd5 "find_followed" = true)
    (k5 : PySem.W.keepIn K (.ref f5) = true)
    (a6 : PySem.W.nsIn K mainGlobals "_law_random" = some (some (.ref f6)))
    (l6 : K.lookup f6 = some ⟨oc6, od6, .func (PySem.W.fnOf "_law_random" "_law_random" (defArgs s_l_random) (defBody s_l_random) (defScope s_l_random) .none kV6 dc6 pm6 an6 cd6 ct6), sl6⟩)
    (c6 : PySem.W.codeIn K cd6 "_law_random" = true)
    (k6 : PySem.W.keepIn K (.ref f6) = true)
    (a7 : PySem.W.nsIn K mainGlobals "_law_below" = some (some (.ref f7)))
    (l7 : K.lookup f7 = some ⟨oc7, od7, .func (PySem.W.fnOf "_law_below" "_law_below" (defArgs s_l_below) (defBody s_l_below) (defScope s_l_below) .none kV7 dc7 pm7 an7 cd7 ct7), sl7⟩)
    (c7 : PySem.W.codeIn K cd7 "_law_below" = true)
    (k7 : PySem.W.keepIn K (.ref f7) = true)
    (a8 : PySem.W.nsIn K mainGlobals "_law_net" = some (some (.ref f8)))
    (l8 : K.lookup f8 = some ⟨oc8, od8, .func (PySem.W.fnOf "_law_net" "_law_net" (defArgs s_l_net) (defBody s_l_net) (defScope s_l_net) .none kV8 dc8 pm8 an8 cd8 ct8), sl8⟩)
    (c8 : PySem.W.codeIn K cd8 "_law_net" = true)
    (k8 : PySem.W.keepIn K (.ref f8) = true)
    (a9 : PySem.W.nsIn K mainGlobals "is_numeral" = some (some (.ref f9)))
    (l9 : K.lookup f9 = some ⟨oc9, od9, .func (PySem.W.fnOf "is_numeral" "is_numeral" (defArgs s_is_numeral) (defBody s_is_numeral) (defScope s_is_numeral) .none kV9 dc9 pm9 an9 cd9 ct9), sl9⟩)
    (c9 : PySem.W.codeIn K cd9 "is_numeral" = true)
    (k9 : PySem.W.keepIn K (.ref f9) = true)
    (a10 : PySem.W.nsIn K mainGlobals "read_line" = some (some (.ref f10)))
    (l10 : K.lookup f10 = some ⟨oc10, od10, .func (PySem.W.fnOf "read_line" "read_line" (defArgs s_read_line) (defBody s_read_line) (defScope s_read_line) .none kV10 dc10 pm10 an10 cd10 ct10), sl10⟩)
    (c10 : PySem.W.codeIn K cd10 "read_line" = true)
    (k10 : PySem.W.keepIn K (.ref f10) = true)
    (a11 : PySem.W.nsIn K mainGlobals "read_rows" = some (some (.ref f11)))
    (l11 : K.lookup f11 = some ⟨oc11, od11, .func (PySem.W.fnOf "read_rows" "read_rows" (defArgs s_read_rows) (defBody s_read_rows) (defScope s_read_rows) .none kV11 dc11 pm11 an11 cd11 ct11), sl11⟩)
    (c11 : PySem.W.codeIn K cd11 "read_rows" = true)
    (k11 : PySem.W.keepIn K (.ref f11) = true)
    (a12 : PySem.W.nsIn K mainGlobals "_law_error_of" = some (some (.ref f12)))
    (l12 : K.lookup f12 = some ⟨oc12, od12, .func (PySem.W.fnOf "_law_error_of" "_law_error_of" (defArgs s_l_error_of) (defBody s_l_error_of) (defScope s_l_error_of) .none kV12 dc12 pm12 an12 cd12 ct12), sl12⟩)
    (c12 : PySem.W.codeIn K cd12 "_law_error_of" = true)
    (k12 : PySem.W.keepIn K (.ref f12) = true)
    (a13 : PySem.W.nsIn K mainGlobals "_law_is_number" = some (some (.ref f13)))
    (l13 : K.lookup f13 = some ⟨oc13, od13, .func (PySem.W.fnOf "_law_is_number" "_law_is_number" (defArgs s_l_is_number) (defBody s_l_is_number) (defScope s_l_is_number) .none kV13 dc13 pm13 an13 cd13 ct13), sl13⟩)
    (c13 : PySem.W.codeIn K cd13 "_law_is_number" = true)
    (k13 : PySem.W.keepIn K (.ref f13) = true)
    (a14 : PySem.W.nsIn K mainGlobals "_law_text_fault" = some (some (.ref f14)))
    (l14 : K.lookup f14 = some ⟨oc14, od14, .func (PySem.W.fnOf "_law_text_fault" "_law_text_fault" (defArgs s_l_text_fault) (defBody s_l_text_fault) (defScope s_l_text_fault) .none kV14 dc14 pm14 an14 cd14 ct14), sl14⟩)
    (c14 : PySem.W.codeIn K cd14 "_law_text_fault" = true)
    (k14 : PySem.W.keepIn K (.ref f14) = true)
    (a15 : PySem.W.nsIn K mainGlobals "law" = some (some (.ref f15)))
    (l15 : K.lookup f15 = some ⟨oc15, od15, .func (PySem.W.fnOf "law" "law" (defArgs s_law) (defBody s_law) (defScope s_law) .none kV15 dc15 pm15 an15 (.ref cL) ct15), sl15⟩)
    (c15 : PySem.W.codeIn K (.ref cL) "law" = true)
    (k15 : PySem.W.keepIn K (.ref f15) = true)
    (a16 : PySem.W.findIn K (.ref C_Net) "__init__" = some (some (.ref f16)))
    (i16 : PySem.W.isFn K (.ref f16) = true)
    (l16 : K.lookup f16 = some ⟨oc16, od16, .func (PySem.W.fnOf "__init__" "Net.__init__" (defArgs s_Net_init) (defBody s_Net_init) (defScope s_Net_init) .none kV16 dc16 pm16 an16 cd16 ct16), sl16⟩)
    (c16 : PySem.W.codeIn K cd16 "Net.__init__" = true)
    (k16 : PySem.W.keepIn K (.ref f16) = true)
    (a17 : PySem.W.findIn K (.ref C_Net) "text" = some (some (.ref p17)))
    (pg17 : PySem.W.specialIn K (.ref p17) "__get__" = some (some (.builtin "property.__get__")))
    (pt17 : PySem.W.takesIn K (.ref p17) = some true)
    (pc17 : PySem.W.recIn K p17 "property" = some (.ref f17 :: pr17))
    (l17 : K.lookup f17 = some ⟨oc17, od17, .func (PySem.W.fnOf "text" "Net.text" (defArgs s_Net_text) (defBody s_Net_text) (defScope s_Net_text) .none kV17 dc17 pm17 an17 cd17 ct17), sl17⟩)
    (c17 : PySem.W.codeIn K cd17 "Net.text" = true)
    (k17 : PySem.W.keepIn K (.ref f17) = true)
    (a18 : PySem.W.findCls K (.ref C_Net) (.type "type") "parse" = some (.get (.builtin "classmethod.__get__") (.ref p18) .none (.ref C_Net)))
    (pc18 : PySem.W.recIn K p18 "classmethod" = some (.ref f18 :: pr18))
    (fi18 : PySem.W.fnIn K f18 = true)
    (l18 : K.lookup f18 = some ⟨oc18, od18, .func (PySem.W.fnOf "parse" "Net.parse" (defArgs s_Net_parse) (defBody s_Net_parse) (defScope s_Net_parse) .none kV18 dc18 pm18 an18 cd18 ct18), sl18⟩)
    (c18 : PySem.W.codeIn K cd18 "Net.parse" = true)
    (k18 : PySem.W.keepIn K (.ref f18) = true)
    (rdNet : PySem.W.readsIn K C_Net (.type "type") = true)
    (rgNet : PySem.W.specialIn K (.ref C_Net) "__getattribute__" = some (some (.builtin "type.__getattribute__")))
    (pgNet : PySem.W.plainGet K C_Net Str.empty = true)
    (hdNet : PySem.W.hasDictIn K C_Net = true)
    (poNet : PySem.W.plainOver K C_Net = true)
    (saNet : PySem.W.findIn K (.ref C_Net) "__setattr__" = some (some (.builtin "object.__setattr__")))
    (mkNet : PySem.W.makesIn K C_Net = true)
    (kcNet : PySem.W.keepIn K (.ref C_Net) = true)
    (nNet_period : PySem.W.findIn K (.ref C_Net) "period" = some none)
    (nNet_houses : PySem.W.findIn K (.ref C_Net) "houses" = some none)
    (nNet_orders : PySem.W.findIn K (.ref C_Net) "orders" = some none)
    (nNet_followed : PySem.W.findIn K (.ref C_Net) "followed" = some none)
    (vLONGEST_PERIOD : PySem.W.nsIn K mainGlobals "LONGEST_PERIOD" = some (some (.int 30 tkLONGEST_PERIOD)))
    (vMOST_HOUSES : PySem.W.nsIn K mainGlobals "MOST_HOUSES" = some (some (.int 10 tkMOST_HOUSES)))
    (vMOST_ORDERS : PySem.W.nsIn K mainGlobals "MOST_ORDERS" = some (some (.int 20 tkMOST_ORDERS)))
    (vLONGEST_DELAY : PySem.W.nsIn K mainGlobals "LONGEST_DELAY" = some (some (.int 9 tkLONGEST_DELAY)))
    (vMOST_DIGITS : PySem.W.nsIn K mainGlobals "MOST_DIGITS" = some (some (.int 3 tkMOST_DIGITS)))
    (zlen : PySem.W.nsIn K mainGlobals "len" = some none)
    (zrange : PySem.W.nsIn K mainGlobals "range" = some none)
    (zisinstance : PySem.W.nsIn K mainGlobals "isinstance" = some none)
    (zint : PySem.W.nsIn K mainGlobals "int" = some none)
    (zbool : PySem.W.nsIn K mainGlobals "bool" = some none)
    (zstr : PySem.W.nsIn K mainGlobals "str" = some none)
    (ztuple : PySem.W.nsIn K mainGlobals "tuple" = some none)
    (zlist : PySem.W.nsIn K mainGlobals "list" = some none)
    (zall : PySem.W.nsIn K mainGlobals "all" = some none)
    (zabs : PySem.W.nsIn K mainGlobals "abs" = some none)
    (zenumerate : PySem.W.nsIn K mainGlobals "enumerate" = some none)
    (tl : K.lookup cL = some ⟨ecL, dcL, .fields vsL, slcL⟩)
    (t11 : vsL[11]? = some (.ref PL))
    (tP : K.lookup PL = none)
    (th : PySem.W.codeHdIn K cL PL = true)
    (gEP : PySem.W.nsIn K mainGlobals "PostError" = some (some (.ref CP)))
    (iEP : PySem.W.isClsIn K CP = true)
    (tEP : PySem.W.typeIn K (.ref CP) = some (.type "type"))
    (bEP : PySem.W.subIn K (.ref CP) (.type "BaseException") = some true)
    (zVE : PySem.W.nsIn K mainGlobals "ValueError" = some none)
    (gE0 : PySem.W.nsIn K mainGlobals "InvalidDay" = some (some (.ref E0)))
    (iE0 : PySem.W.isClsIn K E0 = true)
    (tE0 : PySem.W.typeIn K (.ref E0) = some (.type "type"))
    (gE1 : PySem.W.nsIn K mainGlobals "UnknownHouse" = some (some (.ref E1)))
    (iE1 : PySem.W.isClsIn K E1 = true)
    (tE1 : PySem.W.typeIn K (.ref E1) = some (.type "type"))
    (gE2 : PySem.W.nsIn K mainGlobals "UnknownOrder" = some (some (.ref E2)))
    (iE2 : PySem.W.isClsIn K E2 = true)
    (tE2 : PySem.W.typeIn K (.ref E2) = some (.type "type"))
    (gE3 : PySem.W.nsIn K mainGlobals "InvalidLimit" = some (some (.ref E3)))
    (iE3 : PySem.W.isClsIn K E3 = true)
    (tE3 : PySem.W.typeIn K (.ref E3) = some (.type "type"))
    (gE4 : PySem.W.nsIn K mainGlobals "InvalidOrder" = some (some (.ref E4)))
    (iE4 : PySem.W.isClsIn K E4 = true)
    (tE4 : PySem.W.typeIn K (.ref E4) = some (.type "type"))
    (gE5 : PySem.W.nsIn K mainGlobals "TooManyOrders" = some (some (.ref E5)))
    (iE5 : PySem.W.isClsIn K E5 = true)
    (tE5 : PySem.W.typeIn K (.ref E5) = some (.type "type"))
    (gE6 : PySem.W.nsIn K mainGlobals "TooLong" = some (some (.ref E6)))
    (iE6 : PySem.W.isClsIn K E6 = true)
    (tE6 : PySem.W.typeIn K (.ref E6) = some (.type "type"))
    (gE7 : PySem.W.nsIn K mainGlobals "InvalidResult" = some (some (.ref E7)))
    (iE7 : PySem.W.isClsIn K E7 = true)
    (tE7 : PySem.W.typeIn K (.ref E7) = some (.type "type"))
    (gE8 : PySem.W.nsIn K mainGlobals "Contradiction" = some (some (.ref E8)))
    (iE8 : PySem.W.isClsIn K E8 = true)
    (tE8 : PySem.W.typeIn K (.ref E8) = some (.type "type"))
    (gE9 : PySem.W.nsIn K mainGlobals "InvalidName" = some (some (.ref E9)))
    (iE9 : PySem.W.isClsIn K E9 = true)
    (tE9 : PySem.W.typeIn K (.ref E9) = some (.type "type"))
    (gE10 : PySem.W.nsIn K mainGlobals "UnknownName" = some (some (.ref E10)))
    (iE10 : PySem.W.isClsIn K E10 = true)
    (tE10 : PySem.W.typeIn K (.ref E10) = some (.type "type"))
    (gE11 : PySem.W.nsIn K mainGlobals "InvalidNet" = some (some (.ref E11)))
    (iE11 : PySem.W.isClsIn K E11 = true)
    (tE11 : PySem.W.typeIn K (.ref E11) = some (.type "type"))
    (gE12 : PySem.W.nsIn K mainGlobals "TextFault" = some (some (.ref E12)))
    (iE12 : PySem.W.isClsIn K E12 = true)
    (tE12 : PySem.W.typeIn K (.ref E12) = some (.type "type"))
    (gE13 : PySem.W.nsIn K mainGlobals "InvalidCode" = some (some (.ref E13)))
    (iE13 : PySem.W.isClsIn K E13 = true)
    (tE13 : PySem.W.typeIn K (.ref E13) = some (.type "type"))
    (gE14 : PySem.W.nsIn K mainGlobals "InvalidOperation" = some (some (.ref E14)))
    (iE14 : PySem.W.isClsIn K E14 = true)
    (tE14 : PySem.W.typeIn K (.ref E14) = some (.type "type"))
    (heN : PySem.W.specialIn K (.builtin "object.__class__") "__get__" = some (some (.builtin "getset_descriptor.__get__")))
    (heT : PySem.W.takesIn K (.builtin "object.__class__") = some true)
    (sE11_0 : PySem.W.subIn K (.ref E11) (.ref E0) = some false)
    (sE11_1 : PySem.W.subIn K (.ref E11) (.ref E1) = some false)
    (sE11_2 : PySem.W.subIn K (.ref E11) (.ref E2) = some false)
    (sE11_3 : PySem.W.subIn K (.ref E11) (.ref E3) = some false)
    (sE11_4 : PySem.W.subIn K (.ref E11) (.ref E4) = some false)
    (sE11_5 : PySem.W.subIn K (.ref E11) (.ref E5) = some false)
    (sE11_6 : PySem.W.subIn K (.ref E11) (.ref E6) = some false)
    (sE11_7 : PySem.W.subIn K (.ref E11) (.ref E7) = some false)
    (sE11_8 : PySem.W.subIn K (.ref E11) (.ref E8) = some false)
    (sE11_9 : PySem.W.subIn K (.ref E11) (.ref E9) = some false)
    (sE11_10 : PySem.W.subIn K (.ref E11) (.ref E10) = some false)
    (sE11_11 : PySem.W.subIn K (.ref E11) (.ref E11) = some true)
    (sE11_12 : PySem.W.subIn K (.ref E11) (.ref E12) = some false)
    (sE11_13 : PySem.W.subIn K (.ref E11) (.ref E13) = some false)
    (sE11_14 : PySem.W.subIn K (.ref E11) (.ref E14) = some false)
    (sE11_P : PySem.W.subIn K (.ref E11) (.ref CP) = some true)
    (bE11 : PySem.W.subIn K (.ref E11) (.type "BaseException") = some true)
    (vE11 : PySem.W.subIn K (.ref E11) (.type "ValueError") = some true)
    (kE11 : PySem.W.keepIn K (.ref E11) = true)
    (h1E11 : PySem.W.findIn K (.ref E11) "__getattribute__" = some (some (.builtin "BaseException.__getattribute__")))
    (h2E11 : PySem.W.findIn K (.ref E11) "__getattr__" = some none)
    (h3E11 : PySem.W.hasDictIn K E11 = true)
    (h4E11 : PySem.W.findIn K (.ref E11) "__class__" = some (some (.builtin "object.__class__")))
    (h5E11 : PySem.W.mroIn K E11 (.type "object") = some true)
    (sE12_0 : PySem.W.subIn K (.ref E12) (.ref E0) = some false)
    (sE12_1 : PySem.W.subIn K (.ref E12) (.ref E1) = some false)
    (sE12_2 : PySem.W.subIn K (.ref E12) (.ref E2) = some false)
    (sE12_3 : PySem.W.subIn K (.ref E12) (.ref E3) = some false)
    (sE12_4 : PySem.W.subIn K (.ref E12) (.ref E4) = some false)
    (sE12_5 : PySem.W.subIn K (.ref E12) (.ref E5) = some false)
    (sE12_6 : PySem.W.subIn K (.ref E12) (.ref E6) = some false)
    (sE12_7 : PySem.W.subIn K (.ref E12) (.ref E7) = some false)
    (sE12_8 : PySem.W.subIn K (.ref E12) (.ref E8) = some false)
    (sE12_9 : PySem.W.subIn K (.ref E12) (.ref E9) = some false)
    (sE12_10 : PySem.W.subIn K (.ref E12) (.ref E10) = some false)
    (sE12_11 : PySem.W.subIn K (.ref E12) (.ref E11) = some false)
    (sE12_12 : PySem.W.subIn K (.ref E12) (.ref E12) = some true)
    (sE12_13 : PySem.W.subIn K (.ref E12) (.ref E13) = some false)
    (sE12_14 : PySem.W.subIn K (.ref E12) (.ref E14) = some false)
    (sE12_P : PySem.W.subIn K (.ref E12) (.ref CP) = some true)
    (bE12 : PySem.W.subIn K (.ref E12) (.type "BaseException") = some true)
    (vE12 : PySem.W.subIn K (.ref E12) (.type "ValueError") = some true)
    (kE12 : PySem.W.keepIn K (.ref E12) = true)
    (h1E12 : PySem.W.findIn K (.ref E12) "__getattribute__" = some (some (.builtin "BaseException.__getattribute__")))
    (h2E12 : PySem.W.findIn K (.ref E12) "__getattr__" = some none)
    (h3E12 : PySem.W.hasDictIn K E12 = true)
    (h4E12 : PySem.W.findIn K (.ref E12) "__class__" = some (some (.builtin "object.__class__")))
    (h5E12 : PySem.W.mroIn K E12 (.type "object") = some true)
    (supG : PySem.W.nsIn K mainGlobals "super" = some none)
    (supT : (l.prog.main.scope.names.lookup ("super" : Str)).isSome = false)
    (supA : PySem.W.nsIn K cStatics "thirdparty.any" = some none)
    (iS11 : PySem.W.findIn K (.ref E11) "__init__" = some (some (.ref fS11)))
    (tS11 : PySem.W.typeIn K (.ref fS11) = some (.type "function"))
    (lS11 : K.lookup fS11 = some ⟨ocS11, odS11, .func (PySem.W.ksFn "__init__" "InvalidNet.__init__" (defArgs s_InvalidNet_init) (defBody s_InvalidNet_init) (defScope s_InvalidNet_init) .none kVS11 dcS11 pmS11 anS11 (.ref cdaS11) ctS11 ccS11), slS11⟩)
    (cS11 : PySem.W.codeIn K (.ref cdaS11) "InvalidNet.__init__" = true)
    (xS11 : K.lookup cdaS11 = some ⟨cclS11, cddS11, .fields vsS11, ccsS11⟩)
    (yS11 : vsS11[2]? = some (.str fileS11 tfS11))
    (zS11 : ((l.prog.main.file : Str) == fileS11) = true)
    (eS11 : K.lookup ccS11 = some ⟨clS11, cldS11, .cell (some (.ref E11)), cslS11⟩)
    (oS11 : oexB K E11 = true)
    (sS11 : PySem.W.findIn K (.ref E11) "__setattr__" = some (some (.builtin "object.__setattr__")))
    (mS11 : PySem.W.mroIn K E11 (.ref E11) = some true)
    (uS11 : PySem.W.ks_superIn K E11 E11 "__init__" = some (some (.builtin "ValueError.__init__")))
    (nS11_part : PySem.W.findIn K (.ref E11) "part" = some none)
    (nS11_index : PySem.W.findIn K (.ref E11) "index" = some none)
    (iS12 : PySem.W.findIn K (.ref E12) "__init__" = some (some (.ref fS12)))
    (tS12 : PySem.W.typeIn K (.ref fS12) = some (.type "function"))
    (lS12 : K.lookup fS12 = some ⟨ocS12, odS12, .func (PySem.W.ksFn "__init__" "TextFault.__init__" (defArgs s_TextFault_init) (defBody s_TextFault_init) (defScope s_TextFault_init) .none kVS12 dcS12 pmS12 anS12 (.ref cdaS12) ctS12 ccS12), slS12⟩)
    (cS12 : PySem.W.codeIn K (.ref cdaS12) "TextFault.__init__" = true)
    (xS12 : K.lookup cdaS12 = some ⟨cclS12, cddS12, .fields vsS12, ccsS12⟩)
    (yS12 : vsS12[2]? = some (.str fileS12 tfS12))
    (zS12 : ((l.prog.main.file : Str) == fileS12) = true)
    (eS12 : K.lookup ccS12 = some ⟨clS12, cldS12, .cell (some (.ref E12)), cslS12⟩)
    (oS12 : oexB K E12 = true)
    (sS12 : PySem.W.findIn K (.ref E12) "__setattr__" = some (some (.builtin "object.__setattr__")))
    (mS12 : PySem.W.mroIn K E12 (.ref E12) = some true)
    (uS12 : PySem.W.ks_superIn K E12 E12 "__init__" = some (some (.builtin "ValueError.__init__")))
    (nS12_line : PySem.W.findIn K (.ref E12) "line" = some none)
    : LamX.LawAtS l w K CX0 10 63 "_law_script" mg fa h := by
  have e := hfa.symm.trans (PySem.W.mg_of X G a15)
  cases e
  have G_Net := PySem.W.mg_of X G aCNet
  have T_Net : NetT K C_Net := ⟨⟨pgNet, hdNet, poNet, saNet⟩, nNet_period, nNet_houses, nNet_orders, nNet_followed⟩
  have K_LONGEST_PERIOD : ∃ t, mg "LONGEST_PERIOD" = some (.int 30 t) := ⟨_, PySem.W.mg_of X G vLONGEST_PERIOD⟩
  have K_MOST_HOUSES : ∃ t, mg "MOST_HOUSES" = some (.int 10 t) := ⟨_, PySem.W.mg_of X G vMOST_HOUSES⟩
  have K_MOST_ORDERS : ∃ t, mg "MOST_ORDERS" = some (.int 20 t) := ⟨_, PySem.W.mg_of X G vMOST_ORDERS⟩
  have K_LONGEST_DELAY : ∃ t, mg "LONGEST_DELAY" = some (.int 9 t) := ⟨_, PySem.W.mg_of X G vLONGEST_DELAY⟩
  have K_MOST_DIGITS : ∃ t, mg "MOST_DIGITS" = some (.int 3 t) := ⟨_, PySem.W.mg_of X G vMOST_DIGITS⟩
  have B : Blt mg := ⟨PySem.W.mg_none_of X G zlen, PySem.W.mg_none_of X G zrange, PySem.W.mg_none_of X G zisinstance, PySem.W.mg_none_of X G zint, PySem.W.mg_none_of X G zbool, PySem.W.mg_none_of X G zstr, PySem.W.mg_none_of X G ztuple, PySem.W.mg_none_of X G zlist, PySem.W.mg_none_of X G zall, PySem.W.mg_none_of X G zabs, PySem.W.mg_none_of X G zenumerate⟩
  let cE : Nat → Addr := fun j => ([E0, E1, E2, E3, E4, E5, E6, E7, E8, E9, E10, E11, E12, E13, E14] : List Addr).getD j 0
  have ME : ErrM mg CP cE := ⟨PySem.W.mg_of X G gEP, PySem.W.mg_of X G gE0, PySem.W.mg_of X G gE1, PySem.W.mg_of X G gE2, PySem.W.mg_of X G gE3, PySem.W.mg_of X G gE4, PySem.W.mg_of X G gE5, PySem.W.mg_of X G gE6, PySem.W.mg_of X G gE7, PySem.W.mg_of X G gE8, PySem.W.mg_of X G gE9, PySem.W.mg_of X G gE10, PySem.W.mg_of X G gE11, PySem.W.mg_of X G gE12, PySem.W.mg_of X G gE13, PySem.W.mg_of X G gE14, PySem.W.mg_none_of X G zVE⟩
  have X_InvalidNet : Err15 K CP cE E11 11 := err15_mk (by decide) ⟨h1E11, h2E11, bE11, h3E11, h4E11, heN, heT, h5E11⟩ (exm_mk bEP iEP tEP sE11_P) vE11 rfl fun j hj => match j, hj with
    | 0, _ => ⟨iE0, tE0, sE11_0⟩
    | 1, _ => ⟨iE1, tE1, sE11_1⟩
    | 2, _ => ⟨iE2, tE2, sE11_2⟩
    | 3, _ => ⟨iE3, tE3, sE11_3⟩
    | 4, _ => ⟨iE4, tE4, sE11_4⟩
    | 5, _ => ⟨iE5, tE5, sE11_5⟩
    | 6, _ => ⟨iE6, tE6, sE11_6⟩
    | 7, _ => ⟨iE7, tE7, sE11_7⟩
    | 8, _ => ⟨iE8, tE8, sE11_8⟩
    | 9, _ => ⟨iE9, tE9, sE11_9⟩
    | 10, _ => ⟨iE10, tE10, sE11_10⟩
    | 11, _ => ⟨iE11, tE11, sE11_11⟩
    | 12, _ => ⟨iE12, tE12, sE11_12⟩
    | 13, _ => ⟨iE13, tE13, sE11_13⟩
    | 14, _ => ⟨iE14, tE14, sE11_14⟩
    | j + 15, h => absurd h (by omega)
  have X_TextFault : Err15 K CP cE E12 12 := err15_mk (by decide) ⟨h1E12, h2E12, bE12, h3E12, h4E12, heN, heT, h5E12⟩ (exm_mk bEP iEP tEP sE12_P) vE12 rfl fun j hj => match j, hj with
    | 0, _ => ⟨iE0, tE0, sE12_0⟩
    | 1, _ => ⟨iE1, tE1, sE12_1⟩
    | 2, _ => ⟨iE2, tE2, sE12_2⟩
    | 3, _ => ⟨iE3, tE3, sE12_3⟩
    | 4, _ => ⟨iE4, tE4, sE12_4⟩
    | 5, _ => ⟨iE5, tE5, sE12_5⟩
    | 6, _ => ⟨iE6, tE6, sE12_6⟩
    | 7, _ => ⟨iE7, tE7, sE12_7⟩
    | 8, _ => ⟨iE8, tE8, sE12_8⟩
    | 9, _ => ⟨iE9, tE9, sE12_9⟩
    | 10, _ => ⟨iE10, tE10, sE12_10⟩
    | 11, _ => ⟨iE11, tE11, sE12_11⟩
    | 12, _ => ⟨iE12, tE12, sE12_12⟩
    | 13, _ => ⟨iE13, tE13, sE12_13⟩
    | 14, _ => ⟨iE14, tE14, sE12_14⟩
    | j + 15, h => absurd h (by omega)
  have TO_InvalidNet : OexC K E11 := oex_mk oS11 sS11 bE11 tE11 kE11
  have XF_InvalidNet : XfC K E11 := ⟨h1E11, h2E11, bE11, h3E11⟩
  have SC_InvalidNet : SupC K E11 E11 := ⟨mS11, uS11, vE11⟩
  have SI_InvalidNet := (⟨⟨_, _, _, lS11⟩, ⟨_, rfl, rfl⟩, ⟨_, _, _, _, _, _, xS11, yS11, zS11⟩, ⟨_, _, _, eS11⟩, oex_cls oS11, PySem.W.mg_none_of X G supG, supT, supA, ⟨rfl, rfl, rfl, rfl⟩⟩ : SupI l.prog K mg (defScope s_InvalidNet_init) fS11 cdaS11 ccS11 E11 _)
  have FS_InvalidNet := (⟨_, _, _, _, _, _, _, _, rfl, lS11, cS11⟩ : FunS K "InvalidNet.__init__" s_InvalidNet_init fS11 cdaS11 ccS11 _)
  have BS_InvalidNet := (Binds.all fun us hl => match us, hl with | [_, _, _], _ => rfl : Binds K (PySem.W.ksFn "__init__" "InvalidNet.__init__" (defArgs s_InvalidNet_init) (defBody s_InvalidNet_init) (defScope s_InvalidNet_init) .none kVS11 dcS11 pmS11 anS11 (.ref cdaS11) ctS11 ccS11) P_InvalidNet_init [])
  have TO_TextFault : OexC K E12 := oex_mk oS12 sS12 bE12 tE12 kE12
  have XF_TextFault : XfC K E12 := ⟨h1E12, h2E12, bE12, h3E12⟩
  have SC_TextFault : SupC K E12 E12 := ⟨mS12, uS12, vE12⟩
  have SI_TextFault := (⟨⟨_, _, _, lS12⟩, ⟨_, rfl, rfl⟩, ⟨_, _, _, _, _, _, xS12, yS12, zS12⟩, ⟨_, _, _, eS12⟩, oex_cls oS12, PySem.W.mg_none_of X G supG, supT, supA, ⟨rfl, rfl, rfl, rfl⟩⟩ : SupI l.prog K mg (defScope s_TextFault_init) fS12 cdaS12 ccS12 E12 _)
  have FS_TextFault := (⟨_, _, _, _, _, _, _, _, rfl, lS12, cS12⟩ : FunS K "TextFault.__init__" s_TextFault_init fS12 cdaS12 ccS12 _)
  have BS_TextFault := (Binds.all fun us hl => match us, hl with | [_, _], _ => rfl : Binds K (PySem.W.ksFn "__init__" "TextFault.__init__" (defArgs s_TextFault_init) (defBody s_TextFault_init) (defScope s_TextFault_init) .none kVS12 dcS12 pmS12 anS12 (.ref cdaS12) ctS12 ccS12) P_TextFault_init [])
  have G_is_integer := PySem.W.mg_of X G a1
  have F_is_integer := fun_mk (st := s_is_integer) l1 c1 k1
  have B_is_integer := F_is_integer.binds (ps := P_is_integer) fun _ _ _ _ _ _ us hl => match us, hl with | [_], _ => rfl
  have G_is_within := PySem.W.mg_of X G a2
  have F_is_within := fun_mk (st := s_is_within) l2 c2 k2
  have B_is_within := F_is_within.binds (ps := P_is_within) fun _ _ _ _ _ _ us hl => match us, hl with | [_, _, _], _ => rfl
  have G_is_order := PySem.W.mg_of X G a3
  have F_is_order := fun_mk (st := s_is_order) l3 c3 k3
  have B_is_order := F_is_order.binds (ps := P_is_order) fun _ _ _ _ _ _ us hl => match us, hl with | [_, _, _], _ => rfl
  have G_check_orders := PySem.W.mg_of X G a4
  have F_check_orders := fun_mk (st := s_check_orders) l4 c4 k4
  have B_check_orders := F_check_orders.binds (ps := P_check_orders) fun _ _ _ _ _ _ us hl => match us, hl with | [_, _, _], _ => rfl
  have G_find_followed := PySem.W.mg_of X G a5
  have F_find_followed := fun_mk (st := s_find_followed) l5 c5 k5
  have B_find_followed := F_find_followed.binds (ps := P_find_followed) fun _ _ _ _ _ _ us hl => match us, hl with | [_, _, _], _ => rfl
  have G_l_random := PySem.W.mg_of X G a6
  have F_l_random := fun_mk (st := s_l_random) l6 c6 k6
  have B_l_random := F_l_random.binds (ps := P_l_random) fun _ _ _ _ _ _ us hl => match us, hl with | [_, _], _ => rfl
  have G_l_below := PySem.W.mg_of X G a7
  have F_l_below := fun_mk (st := s_l_below) l7 c7 k7
  have B_l_below := F_l_below.binds (ps := P_l_below) fun _ _ _ _ _ _ us hl => match us, hl with | [_, _], _ => rfl
  have G_l_net := PySem.W.mg_of X G a8
  have F_l_net := fun_mk (st := s_l_net) l8 c8 k8
  have B_l_net := F_l_net.binds (ps := P_l_net) fun _ _ _ _ _ _ us hl => match us, hl with | [_], _ => rfl
  have G_is_numeral := PySem.W.mg_of X G a9
  have F_is_numeral := fun_mk (st := s_is_numeral) l9 c9 k9
  have B_is_numeral := F_is_numeral.binds (ps := P_is_numeral) fun _ _ _ _ _ _ us hl => match us, hl with | [_], _ => rfl
  have G_read_line := PySem.W.mg_of X G a10
  have F_read_line := fun_mk (st := s_read_line) l10 c10 k10
  have B_read_line := F_read_line.binds (ps := P_read_line) fun _ _ _ _ _ _ us hl => match us, hl with | [_, _, _], _ => rfl
  have G_read_rows := PySem.W.mg_of X G a11
  have F_read_rows := fun_mk (st := s_read_rows) l11 c11 k11
  have B_read_rows := F_read_rows.binds (ps := P_read_rows) fun _ _ _ _ _ _ us hl => match us, hl with | [_], _ => rfl
  have G_l_error_of := PySem.W.mg_of X G a12
  have F_l_error_of := fun_mk (st := s_l_error_of) l12 c12 k12
  have B_l_error_of := F_l_error_of.binds (ps := P_l_error_of) fun _ _ _ _ _ _ us hl => match us, hl with | [_], _ => rfl
  have G_l_is_number := PySem.W.mg_of X G a13
  have F_l_is_number := fun_mk (st := s_l_is_number) l13 c13 k13
  have B_l_is_number := F_l_is_number.binds (ps := P_l_is_number) fun _ _ _ _ _ _ us hl => match us, hl with | [_], _ => rfl
  have G_l_text_fault := PySem.W.mg_of X G a14
  have F_l_text_fault := fun_mk (st := s_l_text_fault) l14 c14 k14
  have B_l_text_fault := F_l_text_fault.binds (ps := P_l_text_fault) fun _ _ _ _ _ _ us hl => match us, hl with | [_], _ => rfl
  have G_law := PySem.W.mg_of X G a15
  have F_law : FunC K "law" "law" s_law fa _ cL := ⟨_, _, _, _, _, _, _, _, rfl, l15, c15⟩
  have F_Net_init := fun_mk (st := s_Net_init) l16 c16 k16
  have B_Net_init := F_Net_init.binds (ps := P_Net_init) fun _ _ _ _ _ _ us hl => match us, hl with | [_, _, _, _], _ => rfl
  have M_Net_init : Mk K C_Net f16 := ⟨mkNet, a16, i16, kcNet⟩
  have F_Net_text := fun_mk (st := s_Net_text) l17 c17 k17
  have B_Net_text := F_Net_text.binds (ps := P_Net_text) fun _ _ _ _ _ _ us hl => match us, hl with | [_], _ => rfl
  have M_Net_text : PropOf K C_Net "text" p17 f17 := ⟨a17, pg17, pt17, _, pc17⟩
  have F_Net_parse := fun_mk (st := s_Net_parse) l18 c18 k18
  have B_Net_parse := F_Net_parse.binds (ps := P_Net_parse) fun _ _ _ _ _ _ us hl => match us, hl with | [_, _], _ => rfl
  have M_Net_parse : ClX.CMet K C_Net (.type "type") "parse" p18 f18 := ⟨a18, ⟨_, pc18⟩, fi18⟩
  have R_Net : ClX.CRead K C_Net (.type "type") := ⟨rdNet, rgNet⟩
  refine ⟨PySem.W.fnOf "law" "law" (defArgs s_law) (defBody s_law) (defScope s_law) .none kV15 dc15 pm15 an15 (.ref cL) ct15, [(cL, PL)], spLawT K PL, fun p hp => ?_, fun p hp => ?_, fun p hp => ?_, fun s v => .of_eq rfl, fun H a ns hl _ hT hS => ⟨a, ns, rfl, hS, hl, hT _ List.mem_cons_self, fun _ => rfl⟩, fun base _ _ hTB => ?_⟩
  · rw [List.mem_singleton.mp hp]
    exact own cL PL _ _ _ _ _ _ l15 rfl rfl tl t11
  · rw [List.mem_singleton.mp hp]
    exact tP
  · rw [List.mem_singleton.mp hp]
    exact PySem.W.codeHd_of_K X th
  have TBl := hTB (cL, PL) List.mem_cons_self
  have D_isint : Df l.prog w K mg base "is_integer" 1 P_is_integer (spIsInt K) := ⟨_, _, G_is_integer, F_is_integer.kp, B_is_integer, ok_isint F_is_integer B⟩
  have D_within : Df l.prog w K mg base "is_within" 2 P_is_within (spWithin K) := ⟨_, _, G_is_within, F_is_within.kp, B_is_within, ok_within F_is_within D_isint⟩
  have D_order : Df l.prog w K mg base "is_order" 3 P_is_order (spIsOrder K) := ⟨_, _, G_is_order, F_is_order.kp, B_is_order, ok_is_order F_is_order B D_within K_LONGEST_DELAY⟩
  have D_chk : Df l.prog w K mg base "check_orders" 4 P_check_orders spChkOrders := ⟨_, _, G_check_orders, F_check_orders.kp, B_check_orders, ok_chk_orders F_check_orders B D_order K_MOST_ORDERS⟩
  have D_fol : Df l.prog w K mg base "find_followed" 2 P_find_followed spFollowed := ⟨_, _, G_find_followed, F_find_followed.kp, B_find_followed, ok_followed F_find_followed B⟩
  have D_rnd : Df l.prog w K mg base "_law_random" 2 P_l_random (spRandom K) := ⟨_, _, G_l_random, F_l_random.kp, B_l_random, ok_random F_l_random B⟩
  have D_bel : Df l.prog w K mg base "_law_below" 2 P_l_below spBelow := ⟨_, _, G_l_below, F_l_below.kp, B_l_below, ok_below F_l_below B.len⟩
  have O_init : FnOk l.prog w K mg base CX0 5 _ _ P_Net_init (spInit C_Net) := ok_init F_Net_init T_Net D_within D_chk D_fol K_LONGEST_PERIOD K_MOST_HOUSES
  have D_net : Df l.prog w K mg base "_law_net" 7 P_l_net (spNet C_Net) := ⟨_, _, G_l_net, F_l_net.kp, B_l_net, ok_net F_l_net M_Net_init G_Net O_init B_Net_init⟩
  have O_tx : FnOk l.prog w K mg base CX0 2 _ _ P_Net_text (spText C_Net) := ok_text F_Net_text T_Net
  have D_nu : Df l.prog w K mg base "is_numeral" 2 P_is_numeral spNum := ⟨_, _, G_is_numeral, F_is_numeral.kp, B_is_numeral, ok_numeral F_is_numeral B K_MOST_DIGITS⟩
  have D_li : Df l.prog w K mg base "read_line" 3 P_read_line spLine := ⟨_, _, G_read_line, F_read_line.kp, B_read_line, ok_line F_read_line B D_nu⟩
  have D_ro : Df l.prog w K mg base "read_rows" 4 P_read_rows spRows := ⟨_, _, G_read_rows, F_read_rows.kp, B_read_rows, ok_rows F_read_rows B D_li⟩
  have O_pa : FnOk l.prog w K mg base CX0 7 _ _ P_Net_parse (spParse C_Net) := ok_parse F_Net_parse B D_ro M_Net_init O_init B_Net_init
  have NE : NetErr l.prog w K mg base E11 := ⟨PySem.W.mg_of X G gE11, TO_InvalidNet, SC_InvalidNet, nS11_part, nS11_index, _, _, iS11, tS11, ok_neterr FS_InvalidNet SI_InvalidNet, BS_InvalidNet⟩
  have NT : OneErr l.prog w K mg base "TextFault" "line" P_TextFault_init E12 := ⟨PySem.W.mg_of X G gE12, TO_TextFault, SC_TextFault, nS12_line, _, _, iS12, tS12, ok_linerr FS_TextFault SI_TextFault, BS_TextFault⟩
  have O_cox : FnOk l.prog w K mg base (L2.CX l.prog w) 4 _ _ P_check_orders (spChkOrdersX K E11) := ok_chk_ordersX F_check_orders B NE D_order K_MOST_ORDERS
  have O_inx : FnOk l.prog w K mg base (L2.CX l.prog w) 5 _ _ P_Net_init (spInitX K E11) := ok_initX F_Net_init NE D_within G_check_orders F_check_orders.kp B_check_orders O_cox K_LONGEST_PERIOD K_MOST_HOUSES
  have O_ro : FnOk l.prog w K mg base CX0 4 _ _ P_read_rows spRows := ok_rows F_read_rows B D_li
  have O_rox : FnOk l.prog w K mg base (L2.CX l.prog w) 4 _ _ P_read_rows (spRowsX E12) := ok_rowsX F_read_rows B NT D_li
  have O_pax : FnOk l.prog w K mg base (L2.CX l.prog w) 7 _ _ P_Net_parse (spParseX K C_Net E12 E11) := ok_parseX F_Net_parse B G_read_rows F_read_rows.kp B_read_rows O_ro O_rox M_Net_init O_inx B_Net_init
  have O_nt0 : FnOk l.prog w K mg base CX0 7 _ _ P_l_net (spNet C_Net) := ok_net F_l_net M_Net_init G_Net O_init B_Net_init
  have O_ntx : FnOk l.prog w K mg base (L2.CX l.prog w) 7 _ _ P_l_net (spNetX K E11) := ok_netX F_l_net M_Net_init G_Net O_inx B_Net_init
  have D_isn : Df l.prog w K mg base "_law_is_number" 2 P_l_is_number spLawNum := ⟨_, _, G_l_is_number, F_l_is_number.kp, B_l_is_number, ok_lawnum F_l_is_number B⟩
  have D_flt : Df l.prog w K mg base "_law_text_fault" 3 P_l_text_fault spLawFlt := ⟨_, _, G_l_text_fault, F_l_text_fault.kp, B_l_text_fault, ok_lawflt F_l_text_fault B D_isn⟩
  exact ok_law F_law TBl B T_Net F_l_error_of G_l_error_of F_l_error_of.kp B_l_error_of ME X_InvalidNet XF_InvalidNet nS11_part nS11_index X_TextFault XF_TextFault nS12_line D_rnd D_bel D_flt G_l_net F_l_net.kp B_l_net (FnOk.or (FnOk.up O_nt0) O_ntx) G_Net R_Net M_Net_parse O_pa O_pax B_Net_parse M_Net_text O_tx B_Net_text
end Cp
open PySem PySem.W PyProof.Rows
set_option maxRecDepth 100000 in
set_option maxHeartbeats 0 in
theorem PySem.Challenge.cw_chasepost_k18_invalid_texts_holds : PySem.Challenge.rw_chasepost_k18_invalid_texts.Holds := by
  w_on; o_law; k_head; (case hw => w_witness2)
  k_fill
  refine LamX.walk_ofOwn (l := PySem.Challenge.rw_chasepost_k18_invalid_texts) (n := 63) (k := 10) (x := "_law_script") (CX := fun _ => L2.CX0) rfl (by decide) rfl ⟨rfl, by decide, by decide⟩ (by decide +kernel) (fun w h Y => PySem.W.km_in_of Y) ?F (fun _ _ _ _ _ h => h)
  case F =>
    intro w mg fa h Y KX G hmg own
    refine' Cp.all_mk KX G hmg own ?aCNet ?a1 ?l1 ?c1 ?k1 ?a2 ?l2 ?c2 ?k2 ?a3 ?l3 ?c3 ?k3 ?a4 ?l4 ?c4 ?k4 ?a5 ?l5 ?c5 ?k5 ?a6 ?l6 ?c6 ?k6 ?a7 ?l7 ?c7 ?k7 ?a8 ?l8 ?c8 ?k8 ?a9 ?l9 ?c9 ?k9 ?a10 ?l10 ?c10 ?k10 ?a11 ?l11 ?c11 ?k11 ?a12 ?l12 ?c12 ?k12 ?a13 ?l13 ?c13 ?k13 ?a14 ?l14 ?c14 ?k14 ?a15 ?l15 ?c15 ?k15 ?a16 ?i16 ?l16 ?c16 ?k16 ?a17 ?pg17 ?pt17 ?pc17 ?l17 ?c17 ?k17 ?a18 ?pc18 ?fi18 ?l18 ?c18 ?k18 ?rdNet ?rgNet ?pgNet ?hdNet ?poNet ?saNet ?mkNet ?kcNet ?nNet_period ?nNet_houses ?nNet_orders ?nNet_followed ?vLONGEST_PERIOD ?vMOST_HOUSES ?vMOST_ORDERS ?vLONGEST_DELAY ?vMOST_DIGITS ?zlen ?zrange ?zisinstance ?zint ?zbool ?zstr ?ztuple ?zlist ?zall ?zabs ?zenumerate ?tl ?t11 ?tP ?th ?gEP ?iEP ?tEP ?bEP ?zVE ?gE0 ?iE0 ?tE0 ?gE1 ?iE1 ?tE1 ?gE2 ?iE2 ?tE2 ?gE3 ?iE3 ?tE3 ?gE4 ?iE4 ?tE4 ?gE5 ?iE5 ?tE5 ?gE6 ?iE6 ?tE6 ?gE7 ?iE7 ?tE7 ?gE8 ?iE8 ?tE8 ?gE9 ?iE9 ?tE9 ?gE10 ?iE10 ?tE10 ?gE11 ?iE11 ?tE11 ?gE12 ?iE12 ?tE12 ?gE13 ?iE13 ?tE13 ?gE14 ?iE14 ?tE14 ?heN ?heT ?sE11_0 ?sE11_1 ?sE11_2 ?sE11_3 ?sE11_4 ?sE11_5 ?sE11_6 ?sE11_7 ?sE11_8 ?sE11_9 ?sE11_10 ?sE11_11 ?sE11_12 ?sE11_13 ?sE11_14 ?sE11_P ?bE11 ?vE11 ?kE11 ?h1E11 ?h2E11 ?h3E11 ?h4E11 ?h5E11 ?sE12_0 ?sE12_1 ?sE12_2 ?sE12_3 ?sE12_4 ?sE12_5 ?sE12_6 ?sE12_7 ?sE12_8 ?sE12_9 ?sE12_10 ?sE12_11 ?sE12_12 ?sE12_13 ?sE12_14 ?sE12_P ?bE12 ?vE12 ?kE12 ?h1E12 ?h2E12 ?h3E12 ?h4E12 ?h5E12 ?supG ?supT ?supA ?iS11 ?tS11 ?lS11 ?cS11 ?xS11 ?yS11 ?zS11 ?eS11 ?oS11 ?sS11 ?mS11 ?uS11 ?nS11_part ?nS11_index ?iS12 ?tS12 ?lS12 ?cS12 ?xS12 ?yS12 ?zS12 ?eS12 ?oS12 ?sS12 ?mS12 ?uS12 ?nS12_line
    (case aCNet => k_is)
    (case a1 => k_is)
    (case l1 => k_is)
    (case c1 => k_is)
    (case k1 => k_is)
    (case a2 => k_is)
    (case l2 => k_is)
    (case c2 => k_is)
    (case k2 => k_is)
    (case a3 => k_is)
    (case l3 => k_is)
    (case c3 => k_is)
    (case k3 => k_is)
    (case a4 => k_is)
    (case l4 => k_is)
    (case c4 => k_is)
    (case k4 => k_is)
    (case a5 => k_is)
    (case l5 => k_is)
    (case c5 => k_is)
    (case k5 => k_is)
    (case a6 => k_is)
    (case l6 => k_is)
    (case c6 => k_is)
    (case k6 => k_is)
    (case a7 => k_is)
    (case l7 => k_is)
    (case c7 => k_is)
    (case k7 => k_is)
    (case a8 => k_is)
    (case l8 => k_is)
    (case c8 => k_is)
    (case k8 => k_is)
    (case a9 => k_is)
    (case l9 => k_is)
    (case c9 => k_is)
    (case k9 => k_is)
    (case a10 => k_is)
    (case l10 => k_is)
    (case c10 => k_is)
    (case k10 => k_is)
    (case a11 => k_is)
    (case l11 => k_is)
    (case c11 => k_is)
    (case k11 => k_is)
    (case a12 => k_is)
    (case l12 => k_is)
    (case c12 => k_is)
    (case k12 => k_is)
    (case a13 => k_is)
    (case l13 => k_is)
    (case c13 => k_is)
    (case k13 => k_is)
    (case a14 => k_is)
    (case l14 => k_is)
    (case c14 => k_is)
    (case k14 => k_is)
    (case a15 => k_is)
    (case l15 => k_is)
    (case c15 => k_is)
    (case k15 => k_is)
    (case a16 => k_is)
    (case i16 => k_is)
    (case l16 => k_is)
    (case c16 => k_is)
    (case k16 => k_is)
    (case a17 => k_is)
    (case pg17 => k_is)
    (case pt17 => k_is)
    (case pc17 => k_is)
    (case l17 => k_is)
    (case c17 => k_is)
    (case k17 => k_is)
    (case a18 => k_is)
    (case pc18 => k_is)
    (case fi18 => k_is)
    (case l18 => k_is)
    (case c18 => k_is)
    (case k18 => k_is)
    (case rdNet => k_is)
    (case rgNet => k_is)
    (case pgNet => k_is)
    (case hdNet => k_is)
    (case poNet => k_is)
    (case saNet => k_is)
    (case mkNet => k_is)
    (case kcNet => k_is)
    (case nNet_period => k_is)
    (case nNet_houses => k_is)
    (case nNet_orders => k_is)
    (case nNet_followed => k_is)
    (case vLONGEST_PERIOD => k_is)
    (case vMOST_HOUSES => k_is)
    (case vMOST_ORDERS => k_is)
    (case vLONGEST_DELAY => k_is)
    (case vMOST_DIGITS => k_is)
    (case zlen => k_is)
    (case zrange => k_is)
    (case zisinstance => k_is)
    (case zint => k_is)
    (case zbool => k_is)
    (case zstr => k_is)
    (case ztuple => k_is)
    (case zlist => k_is)
    (case zall => k_is)
    (case zabs => k_is)
    (case zenumerate => k_is)
    (case tl => k_is)
    (case t11 => rfl)
    (case tP => first | rfl | decide +kernel)
    (case th => first | rfl | decide +kernel)
    (case gEP => k_is)
    (case iEP => k_is)
    (case tEP => k_is)
    (case bEP => k_is)
    (case zVE => k_is)
    (case gE0 => k_is)
    (case iE0 => k_is)
    (case tE0 => k_is)
    (case gE1 => k_is)
    (case iE1 => k_is)
    (case tE1 => k_is)
    (case gE2 => k_is)
    (case iE2 => k_is)
    (case tE2 => k_is)
    (case gE3 => k_is)
    (case iE3 => k_is)
    (case tE3 => k_is)
    (case gE4 => k_is)
    (case iE4 => k_is)
    (case tE4 => k_is)
    (case gE5 => k_is)
    (case iE5 => k_is)
    (case tE5 => k_is)
    (case gE6 => k_is)
    (case iE6 => k_is)
    (case tE6 => k_is)
    (case gE7 => k_is)
    (case iE7 => k_is)
    (case tE7 => k_is)
    (case gE8 => k_is)
    (case iE8 => k_is)
    (case tE8 => k_is)
    (case gE9 => k_is)
    (case iE9 => k_is)
    (case tE9 => k_is)
    (case gE10 => k_is)
    (case iE10 => k_is)
    (case tE10 => k_is)
    (case gE11 => k_is)
    (case iE11 => k_is)
    (case tE11 => k_is)
    (case gE12 => k_is)
    (case iE12 => k_is)
    (case tE12 => k_is)
    (case gE13 => k_is)
    (case iE13 => k_is)
    (case tE13 => k_is)
    (case gE14 => k_is)
    (case iE14 => k_is)
    (case tE14 => k_is)
    (case heN => k_is)
    (case heT => k_is)
    (case sE11_0 => k_is)
    (case sE11_1 => k_is)
    (case sE11_2 => k_is)
    (case sE11_3 => k_is)
    (case sE11_4 => k_is)
    (case sE11_5 => k_is)
    (case sE11_6 => k_is)
    (case sE11_7 => k_is)
    (case sE11_8 => k_is)
    (case sE11_9 => k_is)
    (case sE11_10 => k_is)
    (case sE11_11 => k_is)
    (case sE11_12 => k_is)
    (case sE11_13 => k_is)
    (case sE11_14 => k_is)
    (case sE11_P => k_is)
    (case bE11 => k_is)
    (case vE11 => k_is)
    (case kE11 => k_is)
    (case h1E11 => k_is)
    (case h2E11 => k_is)
    (case h3E11 => k_is)
    (case h4E11 => k_is)
    (case h5E11 => k_is)
    (case sE12_0 => k_is)
    (case sE12_1 => k_is)
    (case sE12_2 => k_is)
    (case sE12_3 => k_is)
    (case sE12_4 => k_is)
    (case sE12_5 => k_is)
    (case sE12_6 => k_is)
    (case sE12_7 => k_is)
    (case sE12_8 => k_is)
    (case sE12_9 => k_is)
    (case sE12_10 => k_is)
    (case sE12_11 => k_is)
    (case sE12_12 => k_is)
    (case sE12_13 => k_is)
    (case sE12_14 => k_is)
    (case sE12_P => k_is)
    (case bE12 => k_is)
    (case vE12 => k_is)
    (case kE12 => k_is)
    (case h1E12 => k_is)
    (case h2E12 => k_is)
    (case h3E12 => k_is)
    (case h4E12 => k_is)
    (case h5E12 => k_is)
    (case supG => k_is)
    (case supT => first | rfl | decide +kernel)
    (case supA => k_is)
    (case iS11 => k_is)
    (case tS11 => k_is)
    (case lS11 => k_is)
    (case cS11 => k_is)
    (case xS11 => k_is)
    (case yS11 => first | rfl | decide +kernel)
    (case zS11 => first | rfl | decide +kernel)
    (case eS11 => k_is)
    (case oS11 => first | rfl | decide +kernel)
    (case sS11 => k_is)
    (case mS11 => k_is)
    (case uS11 => first | rfl | decide +kernel)
    (case nS11_part => k_is)
    (case nS11_index => k_is)
    (case iS12 => k_is)
    (case tS12 => k_is)
    (case lS12 => k_is)
    (case cS12 => k_is)
    (case xS12 => k_is)
    (case yS12 => first | rfl | decide +kernel)
    (case zS12 => first | rfl | decide +kernel)
    (case eS12 => k_is)
    (case oS12 => first | rfl | decide +kernel)
    (case sS12 => k_is)
    (case mS12 => k_is)
    (case uS12 => first | rfl | decide +kernel)
    (case nS12_line => k_is)
