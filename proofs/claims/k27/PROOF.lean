import PyProof.Rows.All
import Wide.All
import OpenK.AllK
import Wide.FinOn
import HandS.ForMost
import HandS.IsInst
import HandS.Property
import HandS.Codes
import HandS.Style
import HandS.WordsExc
import KE.KEqSeq
import HandS.Deep
import HandS.GenList
import HandS.GenYield
import KE.GoesMore
import PyProof.Draws
import KE.SortData
import KE.KUnpackStar
import HandS.CallLocal
import KE.KAssignIn
import KE.GoesEnumKw
import HandS.ClsMeth
import HandS.FStr
import HandS.StrMore
import KE.DataFind
import HandS.Conv
import HandS.SortInts
import KE.DataMinMax
import HandS.SortKw
import HandS.DictTup
import KE.KExcSuper
import HandS.ExcInit
import HandS.ExcField
import KE.KExcIs
import KE.KDictCopyH
import HandS.TupAny
import HandS.TupMul
import HandS.Wide
import HandS.Star
import HandS.NoneIn
import KE.KRevSl
import HandS.Lambda
import HandS.ExcIs
import HandS.TryOnly
import HandS.EndOwn
import KE.KNestM
import HandS.TupLen
import HandS.TupSets
import PySem.Challenge.RW_chasepost_k27_invalid_sessions
import HandS.ExcCtx
import HandS.Hot
import HandS.HotCalls
import KE.KExcRaise
import HandS.SuiteRaise
import HandS.RaiseFrom
import HandS.ExcInitHot
import HandS.Small
set_option Elab.async false
set_option linter.all false
set_option maxRecDepth 100000
namespace Cp
open PySem L2
def top (i : Nat) : Stmt := PySem.Challenge.pw_chasepost_k27_invalid_sessions.main.body.getD i (.Pass ⟨0, 0, 0, 0⟩)
/-! ### enumerate over a tuple: a walk for a for (the library's own serves lists) -/
section
open PyProof.Rows
open PySem.AutoSeq1 (wpAny_loadPart')
/-- what enumerate makes of a tuple: its iterator, then the enumerate object -/
abbrev enumHeap (g : Heap) (t : Addr) : Heap :=
  (g.push { cls := .type "tuple_iterator", data := .fields #[.ref t, .int 0 0] }).push { cls := .type "enumerate", data := .fields #[.none, .bool false, .ref g.objs.size, rawInt 0, .none, .none] }
theorem enumT_meets (t : Addr) (xs : Array Value) (k : Nat) (dd : Option Addr) (sv : Array (Option Value)) :
    Meets (Builtin.«enumerate.__new__» ⟨[.type "enumerate", .ref t], []⟩) (fun _ R s => s.heap.get? t = some { cls := .type "tuple", dict := dd, data := .seq xs k, slots := sv } ∧
      R (.ok (.ret (.ref (s.heap.objs.size + 1)))) { s with heap := enumHeap s.heap t }) :=
  .of_wp fun P1 w1 A1 R1 s1 h1 => by
    obtain ⟨hp, gg, dr, tks, oo⟩ := s1
    obtain ⟨ht, hR⟩ := h1
    have hz : (hp.push { cls := .type "tuple_iterator", data := .fields #[.ref t, .int 0 0] }).objs.size = hp.objs.size + 1 := Heap.size_push ..
    have subE := sub_enumerate
    have isT : Heap.IsTuple (Shared.heap ⟨hp, gg, dr, tks, oo⟩) t xs := ⟨_, ht, rfl, k, rfl⟩
    replace hR : R1 (.ok (.ret (.ref (hp.push { cls := .type "tuple_iterator", data := .fields #[.ref t, .int 0 0] }).objs.size))) ⟨enumHeap hp t, gg, dr, tks, oo⟩ := by rw [hz]; exact hR
    wp_walk using wpAny_loadPart' ht
    refine wpAny_stack_any fun stk => wpAny_pure ?_
    split
    · rename_i cc _ _ _ _ _
      cases (cc == Value.type "enumerate")
      · wp_walk using wpAny_loadPart' ht, wpAny_pyIter_tuple isT
        exact ⟨_, rfl, hR⟩
      · wp_walk using wpAny_loadPart' ht, wpAny_pyIter_tuple isT
        exact ⟨_, rfl, hR⟩
    · wp_walk using wpAny_loadPart' ht, wpAny_pyIter_tuple isT
      exact ⟨_, rfl, hR⟩
theorem enumT_call {P : Program} {w : World} {A : Around} {E : Value → Shared → Prop} {s : Shared} {t : Addr} {xs : Array Value} {Q : Value → Shared → Prop} (hT : s.heap.IsTuple t xs)
    (h : ∀ h', IsEnum h' (s.heap.objs.size + 1) s.heap.objs.size 0 .none → h'.IsTupleIter s.heap.objs.size t 0 → (∀ b o, s.heap.get? b = some o → h'.get? b = some o) → Q (.ref (s.heap.objs.size + 1)) { s with heap := h' }) :
    wpAny (model P w) A (call (.type "enumerate") [.ref t]) Q E s := by
  obtain ⟨⟨cv, dd, dv, sv⟩, ht, hc, k, hd⟩ := hT
  obtain rfl : cv = .type "tuple" := hc
  obtain rfl : dv = .seq xs k := hd
  refine callType_new F.called_enumerate (by decide) (F.typeCall_enumerate_1 _) (F.newCall_enumerate_1 _) (fun ob => F.args_object_init_2 ob _) F.entry_enumerate_new (enumT_meets t xs k dd sv) ⟨ht, ?_⟩
  have hz : (s.heap.push { cls := .type "tuple_iterator", data := .fields #[.ref t, .int 0 0] }).objs.size = s.heap.objs.size + 1 := Heap.size_push ..
  have q1 : IsEnum (enumHeap s.heap t) (s.heap.objs.size + 1) s.heap.objs.size 0 .none := by
    have q := Heap.get?_push_size (s.heap.push { cls := .type "tuple_iterator", data := .fields #[.ref t, .int 0 0] }) (o := { cls := .type "enumerate", data := .fields #[.none, .bool false, .ref s.heap.objs.size, rawInt 0, .none, .none] }) rfl
    rw [hz] at q
    exact q
  exact ⟨⟨_, q1, rfl⟩, h _ q1 ⟨_, Heap.get?_push_of_some _ (Heap.get?_push_size _ rfl), rfl, rfl⟩ fun b o x => Heap.get?_push_of_some _ (Heap.get?_push_of_some _ x)⟩
/-- the tuple at a as it stands, each item in a new pair with its number -/
def IteT (K : PySem.W.Frag) (a : Addr) : It :=
  ⟨fun i H => ∃ (xs : List V) (x : V), SqT K H a xs ∧ xs[i]? = some x, fun i H v H' => ∃ T x, v = .ref T ∧ H T = none ∧ H' = upd H T (.tup [.int (i : Nat), x]) ∧ ∀ xs, SqT K H a xs → xs[i]? = some x, fun i H => ∃ xs : List V, SqT K H a xs ∧ xs.length ≤ i⟩
theorem enumT_turn {P : Program} {w : World} {K : PySem.W.Frag} {elts : List Expr} {kk : Nat} {tpos : Pos} (a e it : Addr) (hai : a ≠ it) (hae : a ≠ e) :
    Turn P w K (.Tuple elts kk tpos) (IteT K a) [e, it] e (fun i h => (∃ old, IsEnum h e it ((i : Nat) : Int) old) ∧ h.IsTupleIter it a i ∧ e ≠ it) where
  mem := List.mem_cons_self
  obj := fun i h st b hb => by
    obtain ⟨⟨old, q1⟩, ⟨o, q2, _, q3⟩, _⟩ := st
    rcases List.mem_cons.mp hb with z | z
    · rw [z]
      exact ⟨_, q1, fun v q => nomatch q⟩
    · rw [List.mem_singleton.mp z]
      exact ⟨o, q2, fun v q => by rw [q3] at q; cases q⟩
  keep := fun i h h' st k => by
    obtain ⟨⟨old, q1⟩, ⟨o, q2, r⟩, q4⟩ := st
    exact ⟨⟨old, k e List.mem_cons_self _ q1⟩, ⟨o, k it (by simp) o q2, r⟩, q4⟩
  item := by
    rintro X rfl rfl rfl hc i pins s σ H E I hf ⟨⟨old, q1⟩, q2, q3⟩ ⟨xs, x, hq, hx⟩
    obtain ⟨its, rv, p, hz⟩ := I.tuple hq
    obtain ⟨u, hu, ru⟩ := rv.get hx
    have hel : e < s.heap.objs.size := Heap.lt_size q1
    have hil : it < s.heap.objs.size := by
      obtain ⟨_, q, _⟩ := q2
      exact Heap.lt_size q
    have tup : s.heap.IsTuple a its.toArray := p
    have hlt : i < its.toArray.size := by
      have z := (List.getElem?_eq_some_iff.mp hu).1
      simpa using z
    have D : Draws X.prog X.w X.A.in1 it [it, a] its.toArray.size (fun i v => its.toArray[i]? = some v) (fun i h => h.IsTupleIter it a i ∧ h.IsTuple a its.toArray) := Draws.tuple (by exact I.ok.hd hc) it a hai its.toArray
    refine wpAny_pyNext_enum_itemD D q1 ⟨q2, tup⟩ hlt q3 (by simp [q3, hae.symm]) fun y h' tk hP ho st' hT hsz hk => ?_
    obtain rfl : y = u := by
      have z : its.toArray[i]? = some u := by simpa using hu
      exact Option.some.inj (hP.symm.trans z)
    refine ⟨_, rfl, wpAny_letOwnedTupleGo_enum (s := { s with heap := h', toks := tk + 1 }) ho fun h2 q5 sb => ?_⟩
    have hT2 : h2.get? s.heap.objs.size = some { cls := .type "tuple", data := .seq #[.int i tk, y] } := (sb.2 _ (Nat.ne_of_gt hel)).trans hT
    have new : ObjOk X.prog X.w (upd H s.heap.objs.size (.tup [.int (i : Nat), x])) h2 s.heap.objs.size (.tup [.int (i : Nat), x]) :=
      ⟨by show 2 ≤ sizeLine; decide, [.int i tk, y], .cons ⟨_, rfl⟩ (.cons ru .nil), ⟨_, hT2, rfl, _, rfl⟩⟩
    have I2 : Inv X pins σ (upd H s.heap.objs.size (.tup [.int (i : Nat), x])) { s with heap := h2, toks := tk + 1 } :=
      I.turnedNew (ch := [e, it]) (fun b ob hb q => (sb.2 b (fun z => hb (by simp [z]))).trans (hk b ob (fun z => hb (by simp [z])) (fun z => hb (by simp [z])) q)) hf (Nat.le_refl _) new
    refine ⟨.ref s.heap.objs.size, _, I2, rfl, ⟨_, x, rfl, I.hok.fresh (Nat.le_refl _), rfl, fun ys hy => by rw [I.tuple_inj hy hq]; exact hx⟩, ⟨⟨y, ?_⟩, ?_, q3⟩, fun b hb => ?_⟩
    · rw [show ((i + 1 : Nat) : Int) = (i : Int) + 1 by omega]
      exact q5
    · obtain ⟨o, z, r⟩ := st'.1
      exact ⟨o, (sb.2 it (Ne.symm q3)).trans z, r⟩
    · have hb2 : b < s.heap.objs.size := by
        rcases List.mem_cons.mp hb with z | z
        · rw [z]; exact hel
        · rw [List.mem_singleton.mp z]; exact hil
      rw [upd_ne (Nat.ne_of_lt hb2)]
      exact (hf b hb).1
  done := by
    rintro X rfl rfl rfl hc i pins s σ H E I hf ⟨⟨old, q1⟩, q2, q3⟩ ⟨xs, hq, hx⟩
    obtain ⟨its, rv, p, hz⟩ := I.tuple hq
    obtain ⟨f0, f1, f2, f3, f4, f5⟩ := hf it (by simp)
    have hl := rv.length
    have tup : s.heap.IsTuple a its.toArray := p
    have hT : s.TypeIs (.ref e) "enumerate" := ⟨_, q1, rfl⟩
    unfold pyNext
    refine wpAny_bind (wpAny_attempt (wpAny_callSpecial?_slot (name := Str.ofString "__next__") hT F.slot_enumerate_next (wpAny_call_entry F.slot_enumerate_next hT F.entry_enumerate_next ?_ (F.args_enumerate_next_1 _))))
    show wpAny _ _ (field (.ref e) 2 >>= _) _ _ _
    refine wpAny_bind (wpAny_field q1 rfl (x := .ref it) rfl ?_)
    refine wpAny_bind (wpAny_nextOf_tuple_end (by exact I.ok.hd hc) q2 tup (by simp; omega) fun h' x eb hx' => ?_)
    obtain ⟨o, ho, hc'⟩ := hx'
    refine wpAny_bind (wpAny_isInstance (T := "StopIteration") (b := true) ⟨o, ho, hc'⟩ isSubtype_stop ?_)
    exact wpAny_pure ⟨rfl, I.turned (t' := s.toks) (fun b o hb q => eb b o hb q) f0 f1 f3 f4 f5⟩
  self := fun A i s Q E st h => wpAny_pyIter_enum st.1.choose_spec h
def iEnumT (K : PySem.W.Frag) (ta : TA) : TI := fun σ H R => ta σ H fun vs H1 => ∃ a xs, vs = [.ref a] ∧ H1 a = some (.tup xs) ∧ R (IteT K a) H1
theorem pi_enumT {X : Cx} {e : Expr} {ta : TA} {p pos tpos : Pos} {elts : List Expr} {kk : Nat} (hg : Gl X "enumerate") (hm : X.mg "enumerate" = none) (ha : PA X [e] ta) (hs : starEach [e] X.env = [(false, eval e X.env)] := by rfl) :
    PI X (.Tuple elts kk tpos) (.Call (.Name "enumerate" p) [e] [] pos) (iEnumT X.K ta) := by
  refine ⟨fun pins s σ H R I h => ?_⟩
  refine Call_ (ld_blt I hg hm boot_enumerate (PyProof.Rows.callWith_type1 (thn (ha.run pos pins s σ H _ I h) fun us s1 ⟨vs, H1, I1, r1, q1⟩ => ?_) hs rfl))
  obtain ⟨a, xs, rfl, hq, q⟩ := q1
  cases r1 with
  | cons r rr =>
    cases rr
    cases r
    obtain ⟨its, rv, p2, hz⟩ := I1.tuple (.inl (.inl hq))
    have tup : s1.heap.IsTuple a its.toArray := p2
    have hal : a < s1.heap.objs.size := p2.lt
    refine enumT_call tup fun h' q1 q2 hk => wpAny_pyIter_enum q1 ?_
    have I2 : Inv X pins σ H1 { s1 with heap := h' } := I1.kept (t' := s1.toks) hk
    refine ⟨s1.heap.objs.size + 1, [s1.heap.objs.size + 1, s1.heap.objs.size], _, _, H1, rfl, I2, enumT_turn a (s1.heap.objs.size + 1) s1.heap.objs.size (Nat.ne_of_lt hal) (Nat.ne_of_lt (Nat.lt_succ_of_lt hal)), ⟨⟨.none, q1⟩, q2, Nat.succ_ne_self _⟩, fun b hb => ?_, q⟩
    have hle : s1.heap.objs.size ≤ b := by
      rcases List.mem_cons.mp hb with z | z
      · rw [z]; exact Nat.le_add_right _ _
      · rw [List.mem_singleton.mp z]; exact Nat.le_refl _
    exact I1.fpOk hle (I1.hok.fresh hle)
end
/-! ### a, *b = xs; a call of a class that a local name holds -/
section
open PyProof.Rows PySem.Spec
theorem star_run {P : Program} {w : World} {A : Around} {E : Value → Shared → Prop} {s : Shared} {l : Addr} {items : Array Value} {Q : List Value → Shared → Prop} (hl : s.heap.IsList l items) (hh : A.handled = none) (hn : 1 ≤ items.size) (hz : items.size ≤ 16384)
    (h : ∀ D h' tk, s.heap.get? D = none → (∀ b o, s.heap.get? b = some o → h'.get? b = some o) → h'.get? D = some (seqObj "list" (items.toList.drop 1).toArray 0) → Q (items.toList.take 1 ++ [.ref D]) { s with heap := h', toks := tk }) : wpAny (model P w) A (unpackItems (.ref l) 2 (some 1)) Q E s := by
  have hlt : l ≠ s.heap.objs.size := by obtain ⟨o, ho, _⟩ := hl; exact Nat.ne_of_lt (Heap.lt_size ho)
  unfold unpackItems
  refine wpAny_bind ?_
  unfold notIterableAtAll
  refine wpAny_bind (wpAny_specialOf hl.typeIs slot_list_iter.lookup ?_)
  refine wpAny_pure ?_
  simp only [Bool.false_eq_true, if_false]
  refine wpAny_bind (wpAny_holding (wpAny_pyIter_list hl ?_))
  refine wpAny_bind (wpAny_holding (PySem.W.kun_draw hlt 1 0 _ _ ⟨_, Heap.get?_push_size _ rfl, rfl, rfl⟩ (hl.push _) (by omega) fun h₁ hit₁ hs₁ => ?_))
  have hl₁ : h₁.IsList l items := (hl.push _).extBut hs₁.extBut hlt
  rw [Nat.zero_add] at hit₁
  have hit₁' := hit₁
  obtain ⟨oi, hoi, _⟩ := hit₁'
  have hl₁' := hl₁
  obtain ⟨ol, hol, _⟩ := hl₁'
  rw [List.drop_zero]
  have hfl : (items.toList.take 1).length = 1 := by rw [List.length_take, Array.length_toList]; omega
  rw [if_neg (show ¬ ((items.toList.take 1).length < 1) by rw [hfl]; omega)]
  refine wpAny_bind (wpAny_holding (PySem.W.kun_collect (s := { s with heap := h₁ }) (T := "list_iterator") (.inr (.inr (.inl rfl))) (Walks.list (A := A.in1) hh s.heap.objs.size l hlt items) (fun j u st => st.1.typeIs) (k := 1) (by omega) ⟨hit₁, hl₁⟩ (Heap.lt_size hoi) (Heap.lt_size hol) (fun h₂ tk hk => ?_) (by rw [sizeLine_eq]; omega)))
  have hrl : (items.toList.drop 1).length = items.size - 1 := by rw [List.length_drop, Array.length_toList]
  show wpAny _ _ (if (items.toList.drop 1).length < 2 - 1 - 1 then _ else _) _ _ _
  rw [if_neg (by omega)]
  show wpAny _ _ (newList ((items.toList.drop 1).take ((items.toList.drop 1).length - (2 - 1 - 1))) >>= fun d => pure (items.toList.take 1 ++ [d] ++ (items.toList.drop 1).drop ((items.toList.drop 1).length - (2 - 1 - 1)))) _ _ _
  rw [show (items.toList.drop 1).length - (2 - 1 - 1) = (items.toList.drop 1).length by omega, List.take_length, List.drop_length]
  have he : ∀ b o, s.heap.get? b = some o → h₂.get? b = some o := fun b o e => hk b o (Nat.ne_of_lt (Heap.lt_size e)) (hs₁.extBut b o (Nat.ne_of_lt (Heap.lt_size e)) (Heap.get?_push_of_some _ e))
  have hsz : s.heap.get? h₂.objs.size = none := by
    cases e : s.heap.get? h₂.objs.size with
    | none => rfl
    | some o => exact absurd (Heap.lt_size (he _ _ e)) (Nat.lt_irrefl _)
  refine wpAny_bind (wpAny_newList (wpAny_pure (by rw [List.append_nil]; exact h _ _ tk hsz (fun b o e => Heap.get?_push_of_some _ (he b o e)) (Heap.get?_push_size _ rfl))) (by rw [hrl, sizeLine_eq]; omega))
theorem objOk_some {P : Program} {w : World} {H : Hp} {h : Heap} {a : Addr} {o : HO} (x : ObjOk P w H h a o) : ∃ u, h.get? a = some u := by
  cases o with
  | lst xs => obtain ⟨_, _, _, _, e⟩ := x; exact ⟨_, e⟩
  | tup xs => obtain ⟨_, _, _, _, e, _⟩ := x; exact ⟨_, e⟩
  | dK kvs => obtain ⟨_, _, _, _, o, _, _, e, _⟩ := x; exact ⟨_, e⟩
  | dT kvs => obtain ⟨_, _, _, _, o, _, _, e, _⟩ := x; exact ⟨_, e⟩
  | set S n => obtain ⟨o, _, _, _, e, _⟩ := x; exact ⟨_, e⟩
  | ins C dx fs => obtain ⟨_, _, _, e, _⟩ := x; exact ⟨_, e⟩
  | own y => obtain ⟨_, e⟩ := x; exact ⟨_, e⟩
  | xd fs => obtain ⟨_, ⟨_, _, _, e, _⟩, _⟩ := x; exact ⟨_, e⟩
  | rng lo hi => obtain ⟨_, _, _, e⟩ := x; exact ⟨_, e⟩
  | frz ob u => obtain ⟨e, _⟩ := x; exact ⟨_, e⟩
  | tbl ps => exact ⟨_, show h.get? a = some _ from x⟩
  | met f y => exact ⟨_, show h.get? a = some _ from x⟩
  | ext φ => obtain ⟨_, ⟨_, e⟩, _⟩ := x; exact ⟨_, e⟩
theorem hok_free {P : Program} {w : World} {H : Hp} {h : Heap} {a : Addr} (x : HOk P w H h) (e : h.get? a = none) : H a = none := by
  cases q : H a with
  | none => rfl
  | some o =>
    obtain ⟨u, hu⟩ := objOk_some (x a o q)
    rw [e] at hu
    cases hu
theorem un_laid {fs ex : List Addr} {H : Hp} {a : Addr} {o : HO} {h h' : Heap} (k : ∀ b u, h.get? b = some u → h'.get? b = some u) (hp : h.get? a = none) (hn : H a = none) : Un fs ex H (L2.upd H a o) h h' where
  keep := fun b u q _ _ _ => k b u q
  slot := fun b u q _ _ _ => ⟨u.slots, k b u q⟩
  free := fun b u q n _ => by rw [upd_ne (fun z => by rw [z, hp] at q; cases q)]; exact n
  there := fun b u q _ => ⟨u, k b u q⟩
  tups := fun b xs q => by rw [upd_ne (ne_of_none q hn)]; exact q
  frzs := fun b u xs q => by rw [upd_ne (ne_of_none q hn)]; exact q
  tbls := fun b ps q => ⟨#[], by rw [upd_ne (ne_of_none q hn), q]; simp⟩
theorem hok_laid {P : Program} {w : World} {H : Hp} {a : Addr} {o : HO} {h h' : Heap} (x : HOk P w H h) (k : ∀ b u, h.get? b = some u → h'.get? b = some u) (hn : H a = none) (new : ObjOk P w (L2.upd H a o) h' a o) : HOk P w (L2.upd H a o) h' := fun b u e => by
  by_cases hb : b = a
  · subst hb; rw [upd_same] at e; cases e; exact new
  · rw [upd_ne hb] at e
    exact (x b u e).stay (fun c v _ q => k c v q) (fun c q => by rw [upd_ne (ne_of_none q hn)]; exact q) fun c xs q => by rw [upd_ne (ne_of_none q hn)]; exact q
/-- a, *b = xs -/
def gStar1 (K : PySem.W.Frag) (t : TGs) : TG := fun v σ H Q => ∃ a x xs, v = .ref a ∧ SqL K H a (x :: xs) ∧ xs.length ≤ 1000 ∧ ∀ D, H D = none → t [x, .ref D] σ (L2.upd H D (.lst xs)) Q
theorem pgs_star {X : Cx} {e : Expr} {es : List Expr} {p : Pos} {t : TG} {u : TGs} (h1 : PG X e t) (h2 : PGs X es u)
    (hs : (assignEach (.Starred e p :: es) X.env).map (·.2) = assign e X.env :: (assignEach es X.env).map (·.2) := by rfl) : PGs X (.Starred e p :: es) (gCons t u) := by
  refine ⟨fun pins s σ H vs us Q I r h => ?_⟩
  obtain ⟨v, vr, e1, h⟩ := h
  subst e1
  cases r with
  | cons r rr =>
    rw [hs]
    refine assignInOrder_cons (thn (h1.run pins s σ H _ _ _ I r h) fun _ s1 ⟨σ1, H1, I1, q1⟩ => ?_)
    exact h2.run pins s1 σ1 H1 _ _ Q I1 rr q1
theorem pg_star1 {X : Cx} {es : List Expr} {k : Nat} {pos : Pos} {t : TGs} (hc : X.calm = true) (h : PGs X es t)
    (hn : (assignEach es X.env).length = 2 := by rfl) (hst : (assignEach es X.env).findIdx? (·.1) = some 1 := by rfl) : PG X (.Tuple es k pos) (gStar1 X.K t) := by
  refine ⟨fun pins s σ H v u Q I r hw => ?_⟩
  obtain ⟨a, x, xs, e1, hq, hl, hw⟩ := hw
  subst e1
  cases r
  obtain ⟨its, rv, pl, hz⟩ := I.list hq
  have hlen := rv.length
  rw [List.length_cons] at hlen
  rw [PyProof.Rows.assign_Tuple]
  refine wpAny_bind (wpAny_standAt ?_)
  unfold unpack
  rw [hn, hst]
  refine wpAny_bind (wpAny_holding (star_run pl.isList (I.ok.hd hc) (by rw [List.size_toArray]; omega) (by rw [List.size_toArray]; omega) fun D h' tk hD keep hl' => ?_))
  cases rv with
  | cons rx rxs =>
    rename_i ux uxs
    have hfr := hok_free I.hok hD
    have I1 : Inv X pins σ (L2.upd H D (.lst xs)) { s with heap := h', toks := tk } := I.un (un_laid keep hD hfr) (hok_laid I.hok keep hfr (show ObjOk X.prog X.w _ h' D (.lst xs) from ⟨by rw [sizeLine_eq]; omega, uxs, 0, rxs, hl'⟩))
    exact h.run pins _ σ _ _ _ Q I1 (.cons rx (.cons (show RelV (V.ref D) (Value.ref D) from rfl) .nil)) (hw D hfr)
/-- cls(e, ..), cls a local name -/
def tMakeL (i : Nat) (C : Addr) (sp : Sp) (dvs : List V) (E : XK) (t : TA) : TE := fun σ H Q => σ[i]? = some (some (.ref C)) ∧ tMake C sp dvs E t σ H Q
theorem pe_makeL {X : Cx} {CX : CXT} {k i : Nat} {C f : Addr} {fd : FuncData} {ps : List Str} {sp : Sp} {dvs : List V} {ds : List Value} {E : XK} {x : Str} {p pos : Pos} {e : Expr} {es : List Expr} {t : TA}
    (M : Mk X.K C f) (F : FnOk X.prog X.w X.K X.mg X.base CX k f fd ps sp) (hr : Room (k + 1) X.A) (hN : X.N[i]? = some x) (hv : Vis X.env.scope x) (hb : Binds X.K fd ps ds) (hd : Vals dvs ds) (hx : Passes CX X E)
    (ha : PA X (e :: es) t) (hdb : (x == ("__debug__" : Str)) = false := by decide) (hcd : (x == ("__classdict__" : Str)) = false := by decide) (he : starEach (e :: es) X.env = (false, eval e X.env) :: starEach es X.env := by rfl) (hpl : (backTo pos (starEach es X.env)).any (·.1) = false := by rfl) :
    PE X (.Call (.Name x p) (e :: es) [] pos) (tMakeL i C sp dvs E t) := by
  refine ⟨fun pins s σ H Q I h => ?_⟩
  obtain ⟨hs, ht⟩ := h
  refine wpAny_Call_Name_kw (thn ((pe_var (pos := p) hN hv hdb hcd).run pins s σ H (fun v H1 => v = .ref C ∧ H1 = H) I ⟨.ref C, hs, rfl, rfl⟩) fun u s1 ⟨v, H1, I1, r1, q1⟩ => ?_)
  obtain ⟨rfl, rfl⟩ := q1
  cases r1
  refine PySem.W.callWith_K (h₀ := X.base) I.ok.mod.kin M.kp (thn (ha.run pos pins s1 σ _ _ I1 ht) fun us s2 ⟨vs, H2, I2, r, q⟩ => ⟨I2.kIn, ?_⟩) he hpl
  exact run_make M F hr hb hd hx I2 r q
end
/-! ### min and sorted of data, nested to any depth -/
section
open PySem.Spec PyProof.Rows
open PySem.W (alike alikeAll dataLt minD AlikeAll AllAlike Sortable EachIs sorted_data min_list_data readsAll_atA alike_unique dataLe)
/-- min(xs), xs a list of data that are alike -/
def rMinD (K : PySem.W.Frag) : List V → Hp → VK → Prop := fun vs H Q => ∃ (a : Addr) (xs : List V) (d : PyData) (ds : List PyData), vs = [V.ref a] ∧ SqL K H a xs ∧ DpAll K H xs (d :: ds) ∧ AlikeAll (d :: ds) ∧ PyData.depthAll (d :: ds) ≤ 60 ∧
  ∀ (i : Nat) x, xs[i]? = some x → (d :: ds)[i]? = some (minD d ds) → Q x H
theorem minD_mem : ∀ (ds : List PyData) (d : PyData), minD d ds ∈ d :: ds
  | [], d => List.mem_cons_self
  | e :: r, d => by
    show minD (if dataLt e d = true then e else d) r ∈ _
    have h := minD_mem r (if dataLt e d = true then e else d)
    rcases List.mem_cons.mp h with z | z
    · rw [z]
      split <;> simp
    · exact List.mem_cons_of_mem _ (List.mem_cons_of_mem _ z)
theorem cr_minD {X : Cx} (hc : X.calm = true) (hu : X.A.units + 65 < cLine) : CallR X (.builtin "min") (rMinD X.K) := by
  intro pins s σ H vs us Q I r h
  obtain ⟨a, xs, d, ds, rfl, hs, hd, ha, hdp, q⟩ := h
  obtain ⟨its, rv, hl, _⟩ := I.list hs
  rw [Vals.ref1 r]
  obtain ⟨as, hr⟩ := Dp.readsAll I (d :: ds) xs its hd rv
  refine min_list_data (I.ok.hd hc) hl.isList hr ha (by omega) fun i v h' tk bs hi rd hk => ?_
  have hi2 : its[i]? = some v := by simpa using hi
  have hil : i < xs.length := by
    rw [rv.length]
    exact (List.getElem?_eq_some_iff.mp hi2).1
  obtain ⟨u, hu2, ru⟩ := rv.get (List.getElem?_eq_getElem hil)
  obtain rfl : u = v := Option.some.inj (hu2.symm.trans hi2)
  obtain ⟨cs, rc, lt, mem, _⟩ := readsAll_atA hr i u hi
  have rd' := Reads.keeps hk rc
  have e : (d :: ds).getD i .none = minD d ds := alike_unique _ _ _ _ _ (ha.1 _ mem _ (minD_mem ds d)) rd' rd
  refine ⟨_, H, I.kept (t' := tk) hk, ru, q i _ (List.getElem?_eq_getElem hil) ?_⟩
  rw [← e, List.getD_eq_getElem?_getD, List.getElem?_eq_getElem lt]
  rfl
/-- sorted(xs), xs a list of data that are alike: a new list; R: what is known of each item -/
def rSortedD {β : Type} (enc : β → PyData) (K : PySem.W.Frag) : List V → Hp → VK → Prop := fun vs H Q => ∃ (a : Addr) (xs : List V) (bs : List β) (R : V → β → Prop), vs = [V.ref a] ∧ SqL K H a xs ∧ Paired R xs bs ∧ DpAll K H xs (bs.map enc) ∧ AllAlike (bs.map enc) ∧ Sortable (bs.map enc) ∧ (∀ b ∈ bs, (enc b).depth ≤ 60) ∧
  ∀ ys p, Paired R ys (bs.mergeSort (dataLe false enc)) → H p = none → Q (.ref p) (L2.upd H p (.lst ys))
theorem each_pairs {β : Type} {R : Value → β → Prop} {F : V → β → Prop} (h : ∀ v b, R v b → ∃ x, RelV x v ∧ F x b) : ∀ {out : List Value} {bs : List β}, EachIs R out bs → ∃ ys, Vals ys out ∧ Paired F ys bs
  | _, _, .nil => ⟨[], .nil, .nil⟩
  | _, _, .cons r t => by
    obtain ⟨ys, h1, h2⟩ := each_pairs h t
    obtain ⟨x, h3, h4⟩ := h _ _ r
    exact ⟨x :: ys, .cons h3 h1, .cons h4 h2⟩
theorem each_of {β : Type} {K : PySem.W.Frag} {H : Hp} {enc : β → PyData} {R : V → β → Prop} {R' : Value → β → Prop} : ∀ {xs : List V} {us : List Value} {bs : List β}, Vals xs us → Paired R xs bs → DpAll K H xs (bs.map enc) → (∀ x u b, RelV x u → R x b → Dp K H x (enc b) → R' u b) → EachIs R' us bs
  | _, _, [], rv, hr, hd, _ => by
    cases hd
    cases rv
    exact .nil
  | _, _, b :: bs, rv, hr, hd, h => by
    cases hd with
    | cons q t =>
      cases rv with
      | cons r rt =>
        cases hr with
        | cons p pt => exact .cons (h _ _ _ r p q) (each_of rt pt t h)
theorem cr_sortedD {β : Type} {X : Cx} (enc : β → PyData) (hu : X.A.units + 65 < cLine) : CallR X (.builtin "sorted") (rSortedD enc X.K) := by
  intro pins s σ H vs us Q I r h
  obtain ⟨a, xs, bs, R, rfl, hs, hR, hd, hal, hk, hdp, q⟩ := h
  obtain ⟨its, rv, hl, hz⟩ := I.list hs
  rw [Vals.ref1 r]
  have e1 : EachIs (fun v b => ∃ x, RelV x v ∧ R x b) its bs := each_of rv hR hd fun x u b hr hx _ => ⟨x, hr, hx⟩
  have e2 : EachIs (fun v b => ∃ as, Reads s.heap v (enc b) as) its bs := each_of rv hR hd fun x u b hr _ hd => Dp.reads I _ _ _ hd hr
  have hl2 := e1.length
  refine sorted_data hl.isList e1 e2 hal hk (by rw [← hl2, ← rv.length]; exact hz) (fun b hb => by have := hdp b hb; omega) fun out ho eo => ?_
  obtain ⟨ys, h1, h2⟩ := each_pairs (F := R) (fun v b ⟨x, a1, a2⟩ => ⟨x, a1, a2⟩) eo
  obtain ⟨ep, he'⟩ := PyProof.Rows.sortedAll_at s.heap its out.toArray
  have hlen : ys.length ≤ sizeLine := by
    rw [h1.length, ho, ← hl2, ← rv.length]
    exact hz
  exact ⟨.ref _, L2.upd H (s.heap.objs.size + 1) (.lst ys), I.laid (t' := s.toks) (fun _ _ => PyProof.Rows.sortedAll_old) (Nat.le_succ _) ⟨hlen, out, ep, h1, he'⟩, rfl, q ys _ h2 (I.hok.fresh (Nat.le_succ _))⟩
end
/-! ### xs.count(x), x data of any depth -/
section
open PySem.Spec PyProof.Rows
def rCntD (K : PySem.W.Frag) : V → List V → Hp → VK → Prop := fun x xs H Q => ∃ (a : Addr) (ys : List V) (y : V) (d : PyData) (ds : List PyData), x = V.ref a ∧ xs = [y] ∧ SqL K H a ys ∧ DpAll K H ys ds ∧ Dp K H y d ∧ PyData.plainAll ds = true ∧ d.plain = true ∧ d.depth ≤ 60 ∧ Q (.int ((ds.countP fun z => PyData.eqv z d : Nat) : Int)) H
theorem mt_countD {X : Cx} (hu : X.A.units + 65 < cLine) : MtR X "list.count" (rCntD X.K) := by
  intro pins s σ H x xs v us Q I rx rxs h
  obtain ⟨a, ys, y, d, ds, rfl, rfl, hl, hds, hd, p1, p2, hdp, q⟩ := h
  cases rx
  cases rxs with
  | cons ry rt =>
    rename_i uy ut
    cases rt
    obtain ⟨bs, r1⟩ := Dp.reads I d y uy hd ry
    obtain ⟨its, rv, hL, _⟩ := I.list hl
    obtain ⟨as, hr⟩ := Dp.readsAll I ds ys its hds rv
    refine PySem.SeqAt.count_list_data hL.isList hr r1 p1 p2 (by omega) ⟨.int _, H, I.tok _, ⟨_, rfl⟩, q⟩
end
/-! ### max(xs, default=d), xs a list of ints -/
section
open PySem.Spec PyProof.Rows
open PySem.W (alike alikeAll dataLt maxD AlikeAll max_list_default)
def rMaxDef (K : PySem.W.Frag) : List V → List V → Hp → VK → Prop := fun vs zs H Q => ∃ (a : Addr) (ns : List Int) (d : V), vs = [V.ref a] ∧ zs = [d] ∧ SqL K H a (ns.map V.int) ∧ (ns = [] → Q d H) ∧ ∀ m, m ∈ ns → (∀ y, y ∈ ns → y ≤ m) → Q (.int m) H
def maxI (x : Int) (xs : List Int) : Int := xs.foldl (fun a y => if a < y then y else a) x
theorem maxI_spec : ∀ (xs : List Int) (x : Int), maxI x xs ∈ x :: xs ∧ ∀ y ∈ x :: xs, y ≤ maxI x xs
  | [], x => ⟨List.mem_cons_self, fun y hy => by rw [List.mem_singleton.mp hy]; exact Int.le_refl _⟩
  | z :: r, x => by
    obtain ⟨h1, h2⟩ := maxI_spec r (if x < z then z else x)
    have e : maxI x (z :: r) = maxI (if x < z then z else x) r := rfl
    rw [e]
    have h3 := h2 _ List.mem_cons_self
    refine ⟨?_, fun y hy => ?_⟩
    · rcases List.mem_cons.mp h1 with q | q
      · rw [q]
        split <;> simp
      · exact List.mem_cons_of_mem _ (List.mem_cons_of_mem _ q)
    · rcases List.mem_cons.mp hy with q | q
      · rw [q]
        split at h3 <;> rename_i c
        · rw [if_pos c]; omega
        · rw [if_neg c]; omega
      · rcases List.mem_cons.mp q with q | q
        · rw [q]
          split at h3 <;> rename_i c
          · rw [if_pos c]; omega
          · rw [if_neg c]; omega
        · exact h2 y (List.mem_cons_of_mem _ q)
theorem maxD_int : ∀ (xs : List Int) (x : Int), maxD (.int x) (xs.map PyData.int) = .int (maxI x xs)
  | [], x => rfl
  | y :: ys, x => by
    show maxD (if dataLt (.int x) (.int y) = true then .int y else .int x) (ys.map PyData.int) = .int (maxI (if x < y then y else x) ys)
    rw [PySem.W.dataLt_int]
    by_cases c : x < y
    · rw [if_pos (decide_eq_true c), if_pos c]
      exact maxD_int ys y
    · rw [if_neg (by rw [decide_eq_false c]; exact Bool.false_ne_true), if_neg c]
      exact maxD_int ys x
theorem ints_dp {K : PySem.W.Frag} {H : Hp} : ∀ ns : List Int, DpAll K H (ns.map V.int) (ns.map PyData.int)
  | [] => .nil
  | n :: ns => .cons (.int _) (ints_dp ns)
theorem ints_alike (ns : List Int) : AlikeAll (ns.map PyData.int) := by
  refine ⟨fun x hx y hy => ?_, fun x hx => ?_⟩
  · obtain ⟨s, _, rfl⟩ := List.mem_map.mp hx
    obtain ⟨t, _, rfl⟩ := List.mem_map.mp hy
    simp [alike]
  · obtain ⟨s, _, rfl⟩ := List.mem_map.mp hx
    intro e
    cases e
theorem ints_depth : ∀ ns : List Int, PyData.depthAll (ns.map PyData.int) = 0
  | [] => by simp [PyData.depthAll]
  | n :: ns => by simp [PyData.depthAll, PyData.depth, ints_depth ns]
theorem cr_maxDef {X : Cx} (hc : X.calm = true) (hu : X.A.units + 65 < cLine) : CallRK X (.builtin "max") [Str.ofString "default"] (rMaxDef X.K) := by
  intro pins s σ H vs zs us ws Q I r rz h
  obtain ⟨a, ns, d, rfl, rfl, hs, q0, q⟩ := h
  obtain ⟨its, rv, hl, _⟩ := I.list hs
  rw [Vals.ref1 r]
  cases rz with
  | cons rd rt =>
    cases rt
    rename_i dv
    obtain ⟨as, hr⟩ := Dp.readsAll I (ns.map PyData.int) (ns.map V.int) its (ints_dp ns) rv
    refine max_list_default (I.ok.hd hc) hl.isList hr (ints_alike ns) (by rw [ints_depth]; omega) (fun e h' tk hk => ?_) fun y ys i v h' tk bs e hi rd' hk => ?_
    · exact ⟨d, H, I.kept (t' := tk) hk, rd, q0 (List.map_eq_nil_iff.mp e)⟩
    · cases ns with
      | nil => cases e
      | cons n ns =>
        rw [List.map_cons] at e
        injection e with e1 e2
        subst e1
        subst e2
        rw [maxD_int] at rd'
        obtain ⟨m1, m2⟩ := maxI_spec ns n
        have hi2 : its[i]? = some v := by simpa using hi
        have hil : i < (List.map V.int (n :: ns)).length := by
          rw [rv.length]
          exact (List.getElem?_eq_some_iff.mp hi2).1
        obtain ⟨u, hu2, ru⟩ := rv.get (List.getElem?_eq_getElem hil)
        obtain rfl : u = v := Option.some.inj (hu2.symm.trans hi2)
        cases rd'
        exact ⟨.int _, H, I.kept (t' := tk) hk, ⟨_, rfl⟩, q _ m1 m2⟩
end
/-! ### d.values(), list(d.values()) of a dict whose keys are tuples -/
section
open PySem.Spec PyProof.Rows
/-- the view d.values() at p -/
def valsO (p d : Addr) : HO := .ext fun h => h.IsValuesView p d
theorem valsO_ok {P : Program} {w : World} {H : Hp} {h : Heap} {p d : Addr} (e : h.get? p = some { cls := .type "dict_values", data := .fields #[.ref d] }) : ObjOk P w H h p (valsO p d) :=
  ⟨⟨_, e, rfl, rfl⟩, ⟨_, e⟩, fun h1 h2 x k => let ⟨o, ho, r⟩ := x; ⟨o, k o ho, r⟩⟩
variable {X : Cx}
def rValuesT : V → List V → Hp → VK → Prop := fun x xs H Q => ∃ (a : Addr) (kvs : List (List L2.Key × V)), x = .ref a ∧ xs = [] ∧ H a = some (.dT kvs) ∧ ∀ p, H p = none → Q (.ref p) (L2.upd H p (valsO p a))
theorem mt_valuesT : MtR X "dict.values" rValuesT := by
  intro pins s σ H x xs v us Q I rx rxs h
  obtain ⟨a, kvs, rfl, rfl, ha, q⟩ := h
  cases rx
  cases rxs
  obtain ⟨z, hd, xs', rel, o, es, ep, ho, hx, hdat, _⟩ := dt_of I.hok ha
  have raw : s.heap.DictRaw a es ep := ⟨o, ho, hx, hdat⟩
  refine call_meetsIn PySem.F.slot_dict_values raw.typeIs PySem.F.entry_dict_values (PySem.F.args_dict_values_1 _) (PySem.meets_dict_values_raw a hd) ⟨⟨es, ep, raw⟩, ?_⟩
  have hf : H s.heap.objs.size = none := I.hok.fresh (Nat.le_refl _)
  exact ⟨.ref s.heap.objs.size, L2.upd H s.heap.objs.size (valsO s.heap.objs.size a), I.laid (t' := s.toks) (fun b u e => Heap.get?_push_of_some _ e) (Nat.le_refl _) (valsO_ok (Heap.get?_push_size _ rfl)), rfl, q _ hf⟩
theorem kt_vals {H : Hp} : ∀ {kvs : List (List L2.Key × V)} {xs : List (List L2.Key × Addr × Value)}, KT H kvs xs → Vals (kvs.map (·.2)) (xs.map fun x => x.2.2)
  | _, _, .nil => .nil
  | _, _, .cons h t => .cons h.2.2 (kt_vals t)
theorem call_list_valuesT (hc : X.calm = true) : CallR X (.type "list") (fun xs H Q => ∃ (v d : Addr) (kvs : List (List L2.Key × V)), xs = [V.ref v] ∧ H v = some (valsO v d) ∧ H d = some (.dT kvs) ∧ ∀ p, H p = none → Q (.ref p) (L2.upd H p (.lst (kvs.map (·.2))))) := by
  intro pins s σ H xs us Q I r h
  obtain ⟨v, d, kvs, rfl, hv, hd, q⟩ := h
  obtain ⟨u, rfl, rx⟩ := r.one
  cases rx
  obtain ⟨z, hs, ks, pr, o, es, ep, ho, hx, hdt, he, hn⟩ := dt_of I.hok hd
  have hvv : s.heap.IsValuesView v d := (show ObjOk X.prog X.w H s.heap v (valsO v d) from I.hok v _ hv).1
  have raw : s.heap.DictRaw d es ep := ⟨o, ho, hx, hdt⟩
  have l1 : es.size = ks.length := size_of_entries he
  have l2 : kvs.length = ks.length := Paired.length pr
  refine PySem.W.kdl_call PySem.KdlSrc.rawValues (I.ok.hd hc) ⟨hvv, raw⟩ (by omega) fun h' tk acc' c' kp e it => ?_
  have ea : acc'.toList = ks.map fun x => x.2.2 := by
    have hl : acc'.toList.length = ks.length := by rw [Array.length_toList, it.1]; exact l1
    apply List.ext_getElem?
    intro j
    rw [List.getElem?_map]
    cases hj : acc'.toList[j]? with
    | none =>
      have h1 := List.getElem?_eq_none_iff.mp hj
      rw [List.getElem?_eq_none (by omega)]
      all_goals rfl
    | some v =>
      obtain ⟨hi, hv⟩ := it.2 j v (by rw [← Array.getElem?_toList]; exact hj)
      have qe := entry_at he j
      rw [Array.getElem?_eq_getElem hi] at qe
      cases hb : ks[j]? with
      | none =>
        rw [hb] at qe
        exact nomatch (show some es[j] = none from qe)
      | some b =>
        rw [hb] at qe
        have e2 : es[j] = entryOfKey (tupleKind (mixKind X.prog X.w)) b := Option.some.inj qe
        rw [hv, e2]
        all_goals rfl
  have rv : Vals (kvs.map (·.2)) acc'.toList := by
    rw [ea]
    exact kt_vals pr
  have hz : (kvs.map (·.2)).length ≤ sizeLine := by rw [List.length_map]; omega
  refine ⟨.ref s.heap.objs.size, _, I.laid (t' := tk) (o := .lst (kvs.map (·.2))) kp (Nat.le_refl _) ?_, rfl, q _ (I.hok.fresh (Nat.le_refl _))⟩
  exact ⟨hz, acc'.toList, c', rv, by rw [Array.toArray_toList]; exact e⟩
end
/-! ### xs * k of a tuple, k 0 or 1 -/
section
open PySem.Spec PyProof.Rows
theorem tuple_mul1 (l : Addr) (items : Array Value) (n : Nat) (dd : Option Addr) (sl : Array (Option Value)) (u : Tok) :
    Meets (Builtin.«tuple.__mul__» ⟨[.ref l, .int 1 u], []⟩) (fun _ R s => s.heap.get? l = some { cls := .type "tuple", dict := dd, data := .seq items n, slots := sl } ∧ R (.ok (.ret (.ref l))) s) :=
  .of_wp fun prog w A R s h => by
    obtain ⟨hp, g, d, tk, os⟩ := s
    obtain ⟨hl, h⟩ := h
    have f1 := AutoSeq1.idx_int
    have c1 : (items.isEmpty || (1 : Int) == 1) = true := by rw [Bool.or_eq_true]; exact .inr rfl
    wp_walk using wpAny_loadPart' hl
    repeat (first
      | (refine wpAny_ite_false (decide_eq_false (by decide)) ?_; wp_walk using wpAny_loadPart' hl)
      | (refine wpAny_ite_true (decide_eq_true c1) ?_; wp_walk using wpAny_loadPart' hl))
    exact ⟨_, rfl, h⟩
theorem tuple_mul0 (l : Addr) (items : Array Value) (n : Nat) (dd : Option Addr) (sl : Array (Option Value)) (u : Tok) (hi : items.isEmpty = false) :
    Meets (Builtin.«tuple.__mul__» ⟨[.ref l, .int 0 u], []⟩) (fun _ R s => s.heap.get? l = some { cls := .type "tuple", dict := dd, data := .seq items n, slots := sl } ∧ R (.ok (.ret (.ref s.heap.objs.size))) { s with heap := s.heap.push { cls := Value.type "tuple", data := Data.seq #[] }, toks := s.toks }) :=
  .of_wp fun prog w A R s h => by
    obtain ⟨hp, g, d, tk, os⟩ := s
    obtain ⟨hl, h⟩ := h
    have f1 := AutoSeq1.idx_int
    have c1 : ¬ (items.isEmpty || (0 : Int) == 1) = true := by rw [hi]; decide
    have c2 : (decide ((0 : Int) ≤ 0) || items.isEmpty) = true := by rw [hi]; decide
    wp_walk using wpAny_loadPart' hl
    repeat (first
      | (refine wpAny_ite_false (decide_eq_false (by decide)) ?_; wp_walk using wpAny_loadPart' hl)
      | (refine wpAny_ite_false (decide_eq_false c1) ?_; wp_walk using wpAny_loadPart' hl)
      | (refine wpAny_ite_true (decide_eq_true c2) ?_; wp_walk using wpAny_loadPart' hl))
    exact ⟨_, rfl, h⟩
def rRep01 (K : PySem.W.Frag) : R2 := fun x y H Q => ∃ l k xs, x = .ref l ∧ y = .int k ∧ SqT K H l xs ∧ xs ≠ [] ∧ (k = 0 ∨ k = 1) ∧ (k = 1 → Q (.ref l) H) ∧ (k = 0 → ∀ p, H p = none → Q (.ref p) (L2.upd H p (.tup [])))
theorem op_rep01 {X : Cx} : OpR X (binaryOp .Mult) (rRep01 X.K) := by
  intro pins s σ H x y v u Q I rx ry h
  obtain ⟨l, k, xs, rfl, rfl, hT, hne, hk, q1, q0⟩ := h
  cases rx
  obtain ⟨t, rfl⟩ := ry
  obtain ⟨its, r, ⟨⟨cls, dd, data, sl⟩, ho, hc, n, hd⟩, hs⟩ := I.tuple hT
  simp only at hc hd
  subst hc hd
  have hn : its ≠ [] := fun e => hne (by
    have := r.length
    rw [e] at this
    exact List.eq_nil_of_length_eq_zero this)
  have hi : its.toArray.isEmpty = false := by
    cases its with
    | nil => exact absurd rfl hn
    | cons a b => rfl
  rcases hk with rfl | rfl
  · refine wpAny_binaryOp_repeat_ref (T := "tuple") (U := "int") (by decide) ⟨_, ho, rfl⟩ (fun s' => typeIs_int s' 0 t) noFill_tuple_mul PySem.F.fills_int_mul PySem.F.slot_int_rmul repeat_tuple PySem.F.slot_int_index.lookup
      (call_meets PySem.F.slot_int_rmul (typeIs_int s 0 t) PySem.F.entry_int_rmul (PySem.F.args_int_rmul_2 _ _) (int_rmul_tuple 0 t l its.toArray n dd sl)
        ⟨ho, rfl, ⟨_, ho, rfl⟩, call_meets PySem.F.slot_tuple_mul ⟨_, ho, rfl⟩ PySem.F.entry_tuple_mul (PySem.F.args_tuple_mul_2 _ _) (tuple_mul0 l its.toArray n dd sl t hi) ⟨ho, ?_⟩⟩)
    refine ⟨.ref s.heap.objs.size, _, I.laid (t' := s.toks) (o := .tup []) (fun b ob q => Heap.get?_push_of_some _ q) (Nat.le_refl _) ?_, rfl, q0 rfl _ (I.hok.fresh (Nat.le_refl _))⟩
    exact ⟨Nat.zero_le _, [], .nil, IsTup.new _ _⟩
  · refine wpAny_binaryOp_repeat_ref (T := "tuple") (U := "int") (by decide) ⟨_, ho, rfl⟩ (fun s' => typeIs_int s' 1 t) noFill_tuple_mul PySem.F.fills_int_mul PySem.F.slot_int_rmul repeat_tuple PySem.F.slot_int_index.lookup
      (call_meets PySem.F.slot_int_rmul (typeIs_int s 1 t) PySem.F.entry_int_rmul (PySem.F.args_int_rmul_2 _ _) (int_rmul_tuple 1 t l its.toArray n dd sl)
        ⟨ho, rfl, ⟨_, ho, rfl⟩, call_meets PySem.F.slot_tuple_mul ⟨_, ho, rfl⟩ PySem.F.entry_tuple_mul (PySem.F.args_tuple_mul_2 _ _) (tuple_mul1 l its.toArray n dd sl t) ⟨ho, ?_⟩⟩)
    exact ⟨.ref l, H, I, rfl, q1 rfl⟩
end
/-! ### a comprehension over two ranges -/
theorem lc2_rng {lo : Int} {n : Nat} {g : TG} {tt tt1 : TT} {wi1 : TI} {g1 : TG} {te : TE} {vs vs1 : List Nat} {σ : L2.St} {H1 : Hp} {D : Addr} {Qd : Hp → Prop} (Pv : Nat → Hp → Prop) (h0 : Pv 0 (upd H1 D (.lst [])))
    (hs : ∀ i H, i < n → Pv i H → g (.int (lo + i)) (wipe σ vs) H fun σ2 H2 => wipe σ2 vs = wipe σ vs ∧ tt σ2 H2 fun b H3 =>
      if b = true then wi1 σ2 H3 fun J1 H4 => ∃ W1 : Nat → Nat → Hp → Prop, (∃ m, W1 0 m H4) ∧ ∀ j k H, W1 j k H →
          (J1.stop j H ∧ Pv (i + 1) H) ∨ (J1.go j H ∧ ∃ Nx1 : Hp → Prop, (∀ H', Nx1 H' → ∃ k', k' < k ∧ W1 (j + 1) k' H') ∧ ∀ x H', J1.yld j H x H' → g1 x (wipe σ2 vs1) H' fun σ3 H5 => wipe σ3 vs1 = wipe σ2 vs1 ∧ tt1 σ3 H5 fun b H6 =>
            if b = true then te σ3 H6 fun y H7 => ∃ acc, H7 D = some (.lst acc) ∧ acc.length < sizeLine ∧ Nx1 (upd H7 D (.lst (acc ++ [y]))) else Nx1 H6)
      else Pv (i + 1) H3) (hd : ∀ H, Pv n H → Qd H) :
    ∃ W : Nat → Nat → Hp → Prop, (∃ m, W 0 m (upd H1 D (.lst []))) ∧ ∀ i m H, W i m H →
      ((Itr lo n).stop i H ∧ Qd H) ∨ ((Itr lo n).go i H ∧ ∃ Nx : Hp → Prop, (∀ H', Nx H' → ∃ m', m' < m ∧ W (i + 1) m' H') ∧ ∀ x H', (Itr lo n).yld i H x H' → g x (wipe σ vs) H' fun σ2 H2 => wipe σ2 vs = wipe σ vs ∧ tt σ2 H2 fun b H3 =>
        if b = true then wi1 σ2 H3 fun J1 H4 => ∃ W1 : Nat → Nat → Hp → Prop, (∃ m, W1 0 m H4) ∧ ∀ j k H, W1 j k H →
          (J1.stop j H ∧ Nx H) ∨ (J1.go j H ∧ ∃ Nx1 : Hp → Prop, (∀ H', Nx1 H' → ∃ k', k' < k ∧ W1 (j + 1) k' H') ∧ ∀ x H', J1.yld j H x H' → g1 x (wipe σ2 vs1) H' fun σ3 H5 => wipe σ3 vs1 = wipe σ2 vs1 ∧ tt1 σ3 H5 fun b H6 =>
            if b = true then te σ3 H6 fun y H7 => ∃ acc, H7 D = some (.lst acc) ∧ acc.length < sizeLine ∧ Nx1 (upd H7 D (.lst (acc ++ [y]))) else Nx1 H6)
        else Nx H3) := by
  refine ⟨fun i m H => m = n - i ∧ i ≤ n ∧ Pv i H, ⟨n, by simp, Nat.zero_le _, h0⟩, ?_⟩
  rintro i m H ⟨rfl, hi, p⟩
  by_cases hlt : i < n
  · refine .inr ⟨hlt, Pv (i + 1), fun H' p' => ⟨n - (i + 1), by omega, rfl, hlt, p'⟩, fun x H' y => ?_⟩
    obtain ⟨e, y⟩ := y
    subst e y
    exact hs i _ hlt p
  · have e : i = n := by omega
    subst e
    exact .inl ⟨Nat.le_refl _, hd H p⟩
theorem in_rng {lo : Int} {n : Nat} {g1 : TG} {tt1 : TT} {te : TE} {vs1 : List Nat} {σ2 : L2.St} {H4 : Hp} {D : Addr} {Nx : Hp → Prop} (Pv : Nat → Hp → Prop) (h0 : Pv 0 H4)
    (hs : ∀ i H, i < n → Pv i H → g1 (.int (lo + i)) (wipe σ2 vs1) H fun σ3 H5 => wipe σ3 vs1 = wipe σ2 vs1 ∧ tt1 σ3 H5 fun b H6 =>
      if b = true then te σ3 H6 fun y H7 => ∃ acc, H7 D = some (.lst acc) ∧ acc.length < sizeLine ∧ Pv (i + 1) (upd H7 D (.lst (acc ++ [y]))) else Pv (i + 1) H6) (hd : ∀ H, Pv n H → Nx H) :
    ∃ W1 : Nat → Nat → Hp → Prop, (∃ m, W1 0 m H4) ∧ ∀ j k H, W1 j k H →
      ((Itr lo n).stop j H ∧ Nx H) ∨ ((Itr lo n).go j H ∧ ∃ Nx1 : Hp → Prop, (∀ H', Nx1 H' → ∃ k', k' < k ∧ W1 (j + 1) k' H') ∧ ∀ x H', (Itr lo n).yld j H x H' → g1 x (wipe σ2 vs1) H' fun σ3 H5 => wipe σ3 vs1 = wipe σ2 vs1 ∧ tt1 σ3 H5 fun b H6 =>
        if b = true then te σ3 H6 fun y H7 => ∃ acc, H7 D = some (.lst acc) ∧ acc.length < sizeLine ∧ Nx1 (upd H7 D (.lst (acc ++ [y]))) else Nx1 H6) := by
  refine ⟨fun i m H => m = n - i ∧ i ≤ n ∧ Pv i H, ⟨n, by simp, Nat.zero_le _, h0⟩, ?_⟩
  rintro i m H ⟨rfl, hi, p⟩
  by_cases hlt : i < n
  · refine .inr ⟨hlt, Pv (i + 1), fun H' p' => ⟨n - (i + 1), by omega, rfl, hlt, p'⟩, fun x H' y => ?_⟩
    obtain ⟨e, y⟩ := y
    subst e y
    exact hs i _ hlt p
  · have e : i = n := by omega
    subst e
    exact .inl ⟨Nat.le_refl _, hd H p⟩
/-! ### plain mathematics: orders, the first valid one, ways -/
structure Od where
  s : Nat
  t : Nat
  f : Nat
  n : Nat
  e : Nat
def Od.vs (o : Od) : List V := [.int o.s, .int o.t, .int o.f, .int o.n, .int o.e]
structure OdOk (p h : Nat) (o : Od) : Prop where
  s : o.s < h
  t : o.t < h
  st : o.s ≠ o.t
  f : o.f < p
  n1 : 1 ≤ o.n
  n : o.n ≤ p
  e1 : 1 ≤ o.e
  e : o.e ≤ 9
/-- the order o is valid on the day d of a net of period p -/
def onDay (p : Nat) (o : Od) (d : Int) : Bool := decide ((d - (o.f : Int)) % (p : Int) < (o.n : Int))
def hit (p : Nat) (s : Nat) (d : Int) (o : Od) : Bool := decide (o.s = s) && onDay p o d
/-- the number of the order that is followed -/
def idx (p : Nat) (os : List Od) (s : Nat) (d : Int) : Option Nat := os.findIdx? (hit p s d)
def optV : Option Nat → V
  | none => .non
  | some k => .int k
theorem optV_flat (o : Option Nat) : flatV (optV o) = true := by cases o <;> rfl
theorem idx_mod (p : Nat) (os : List Od) (s : Nat) (d : Int) : idx p os s (d % (p : Int)) = idx p os s d := by
  unfold idx
  congr 1
  funext o
  unfold hit onDay
  rw [Int.emod_sub_emod]
theorem idx_nat (p : Nat) (os : List Od) (s d : Nat) : idx p os s ((d % p : Nat) : Int) = idx p os s (d : Int) := by
  rw [Int.natCast_emod]
  exact idx_mod p os s d
theorem idx_later (p : Nat) (os : List Od) (s d k : Nat) : idx p os s ((d + p * k : Nat) : Int) = idx p os s (d : Int) := by
  rw [← idx_nat p os s (d + p * k), Nat.add_mul_mod_self_left, idx_nat]
theorem idx_lt {p : Nat} {os : List Od} {s k : Nat} {d : Int} (h : idx p os s d = some k) : k < os.length := by
  unfold idx at h
  exact (List.findIdx?_eq_some_iff_getElem.mp h).1
theorem idx_take_succ {p : Nat} {os : List Od} {s k : Nat} {d : Int} {o : Od} (h : os[k]? = some o) :
    idx p (os.take (k + 1)) s d = (idx p (os.take k) s d).or (if hit p s d o = true then some k else none) := by
  obtain ⟨hk, ho⟩ := List.getElem?_eq_some_iff.mp h
  unfold idx
  rw [List.take_add_one, h, Option.toList_some, List.findIdx?_append, List.findIdx?_singleton]
  have hl : (os.take k).length = k := by rw [List.length_take]; omega
  rw [hl]
  cases hh : hit p s d o with
  | true => simp
  | false => simp
/-- which days of the period are among the first l days of an order -/
def among (p f l d : Nat) : Prop := ∃ j, j < l ∧ (f + j) % p = d
theorem among_zero (p f d : Nat) : ¬ among p f 0 d := fun ⟨_, h, _⟩ => absurd h (Nat.not_lt_zero _)
theorem among_succ {p f l d : Nat} : among p f (l + 1) d ↔ among p f l d ∨ (f + l) % p = d := by
  constructor
  · rintro ⟨j, hj, e⟩
    by_cases z : j = l
    · subst z
      exact .inr e
    · exact .inl ⟨j, by omega, e⟩
  · rintro (⟨j, hj, e⟩ | e)
    · exact ⟨j, by omega, e⟩
    · exact ⟨l, by omega, e⟩
theorem among_on {p h d : Nat} {o : Od} (k : OdOk p h o) (hd : d < p) : among p o.f o.n d ↔ onDay p o (d : Int) = true := by
  unfold onDay
  rw [decide_eq_true_iff]
  have kf := k.f
  have kn := k.n
  have key : ((d : Int) - (o.f : Int)) % (p : Int) = if o.f ≤ d then (d : Int) - o.f else (d : Int) - o.f + p := by
    split
    · exact Int.emod_eq_of_lt (by omega) (by omega)
    · rw [← Int.add_emod_right]
      exact Int.emod_eq_of_lt (by omega) (by omega)
  rw [key]
  constructor
  · rintro ⟨j, hj, e⟩
    by_cases q : o.f + j < p
    · rw [Nat.mod_eq_of_lt q] at e
      rw [if_pos (by omega)]
      omega
    · have e2 : (o.f + j) % p = o.f + j - p := by
        rw [Nat.mod_eq_sub_mod (by omega), Nat.mod_eq_of_lt (by omega)]
      rw [e2] at e
      split
      · omega
      · omega
  · intro q
    by_cases c : o.f ≤ d
    · rw [if_pos c] at q
      exact ⟨d - o.f, by omega, by rw [show o.f + (d - o.f) = d by omega]; exact Nat.mod_eq_of_lt hd⟩
    · rw [if_neg c] at q
      refine ⟨d + p - o.f, by omega, ?_⟩
      rw [show o.f + (d + p - o.f) = d + p by omega, Nat.add_mod_right]
      exact Nat.mod_eq_of_lt hd
/-- one hop of a letter at a house on a day -/
def hop (p : Nat) (os : List Od) (st : Nat × Nat) : Option (Nat × Nat) :=
  match idx p os st.1 (st.2 : Int) with
  | none => none
  | some k => (os[k]?).map fun o => (o.t, st.2 + o.e)
/-- the first n stops of a letter -/
def way (p : Nat) (os : List Od) : Nat → Nat × Nat → List (Nat × Nat)
  | 0, _ => []
  | n + 1, st => st :: match hop p os st with
    | none => []
    | some st' => way p os n st'
/-! ### heaps -/
/-- all but what stands at d is as it was -/
def But (d : Addr) (H H' : Hp) : Prop := ∀ b o, b ≠ d → H b = some o → H' b = some o
theorem But.refl {d : Addr} {H : Hp} : But d H H := fun _ _ _ e => e
theorem But.trans {d : Addr} {H H1 H2 : Hp} (a : But d H H1) (b : But d H1 H2) : But d H H2 := fun c o n e => b c o n (a c o n e)
theorem But.of {d : Addr} {H H' : Hp} (s : Same H H') : But d H H' := fun b o _ e => s b o e
theorem But.upd {d : Addr} {H : Hp} {o : HO} : But d H (upd H d o) := fun b u n e => by rw [upd_ne n]; exact e
theorem same_upd {H : Hp} {p : Addr} {o : HO} (h : H p = none) : Same H (L2.upd H p o) := fun b x e => by
  rw [upd_ne (ne_of_none e h)]
  exact e
theorem same_updN {H H' : Hp} {p : Addr} {o : HO} (s : Same H H') (h : H p = none) : Same H (L2.upd H' p o) := fun b x e => by
  rw [upd_ne (ne_of_none e h)]
  exact s b x e
theorem But.new {d p : Addr} {H : Hp} {o : HO} (h : H p = none) : But d H (L2.upd H p o) := But.of (same_upd h)
theorem But.free {d p : Addr} {H H' : Hp} {o : HO} (s : But d H H') (hd : H' d = some o) (h : H' p = none) : H p = none := by
  cases q : H p with
  | none => rfl
  | some u =>
    by_cases e : p = d
    · rw [e, hd] at h
      cases h
    · rw [s p u e q] at h
      cases h
/-- the tail of ints of the source of numbers -/
def DL (s c : Nat) (r : List Nat) : List V := .int s :: .int c :: r.map fun (n : Nat) => V.int (n : Int)
def DAt (H : Hp) (d : Addr) : Prop := ∃ s c r, s < 2147483647 ∧ r.length ≤ 63 ∧ H d = some (.lst (DL s c r))
theorem DAt.but {H H' : Hp} {d : Addr} (h : DAt H d) (s : Same H H') : DAt H' d := by
  obtain ⟨a, b, c, h1, h2, h3⟩ := h
  exact ⟨a, b, c, h1, h2, s _ _ h3⟩
theorem DAt.som {H : Hp} {d : Addr} (h : DAt H d) : ∃ o, H d = some o := by
  obtain ⟨a, b, c, h1, h2, h3⟩ := h
  exact ⟨_, h3⟩
theorem dl0 {s c : Nat} {r : List Nat} : atI (DL s c r) 0 = some (.int s) := atI_nat (j := 0) rfl
theorem dl1 {s c : Nat} {r : List Nat} : atI (DL s c r) 1 = some (.int c) := atI_nat (j := 1) rfl
theorem ix_at {n j : Nat} (hj : j < n) : ixN n (j : Int) = some j := by
  unfold ixN
  rw [if_pos (by omega), if_pos (by omega)]
  simp
theorem seqIx {n j : Nat} (hj : j < n) : seqIndex? (j : Int) n = some j := by
  unfold seqIndex?
  have h1 : ¬ (j : Int) < 0 := by omega
  have h2 : (decide (0 ≤ (j : Int)) && decide ((j : Int) < (n : Int))) = true := by
    rw [decide_eq_true (show 0 ≤ (j : Int) by omega), decide_eq_true (show (j : Int) < (n : Int) by omega)]
    rfl
  simp only [if_neg h1]
  rw [if_pos h2]
  simp
theorem fmod_nat (a b : Nat) : (a : Int).fmod (b : Int) = ((a % b : Nat) : Int) := by
  rw [Int.fmod_eq_emod_of_nonneg _ (by omega)]
  rfl
theorem fdiv_nat (a b : Nat) : (a : Int).fdiv (b : Int) = ((a / b : Nat) : Int) := by
  rw [Int.fdiv_eq_ediv_of_nonneg _ (by omega)]
  rfl
theorem dlx {s c j : Nat} {r : List Nat} (h : j < 2) : ixN (DL s c r).length (j : Int) = some j := ix_at (by
  show j < (List.map _ r).length + 1 + 1
  omega)
theorem dllen {s c : Nat} {r : List Nat} : (DL s c r).length = r.length + 2 := by
  show (List.map _ r).length + 1 + 1 = _
  rw [List.length_map]
/-- the built-ins that no name of the program hides -/
structure Blt (mg : Str → Option Value) : Prop where
  len : mg "len" = none
  range : mg "range" = none
  isi : mg "isinstance" = none
  int : mg "int" = none
  bool : mg "bool" = none
  str : mg "str" = none
  tuple : mg "tuple" = none
  list : mg "list" = none
  all : mg "all" = none
  abs : mg "abs" = none
  enum : mg "enumerate" = none
/-- a def of the top that keeps its promise -/
def Df (P : Program) (w : World) (K : PySem.W.Frag) (mg : Str → Option Value) (base : Heap) (x : Str) (k : Nat) (ps : List Str) (sp : Sp) : Prop :=
  ∃ (f : Addr) (fd : FuncData), mg x = some (.ref f) ∧ PySem.W.keepIn K (.ref f) = true ∧ Binds K fd ps [] ∧ FnOk P w K mg base CX0 k f fd ps sp
/-- a list of numbers -/
def nints (l : List Nat) : List V := l.map fun (n : Nat) => V.int (n : Int)
/-- filtering a range step by step -/
theorem filter_range_succ' {n : Nat} {f : Nat → Bool} : (List.range (n + 1)).filter f = (List.range n).filter f ++ (if f n = true then [n] else []) := by
  rw [List.range_succ, List.filter_append]
  congr 1
  by_cases c : f n = true
  · rw [if_pos c, List.filter_cons_of_pos c]
    rfl
  · rw [if_neg c, List.filter_cons_of_neg c]
    rfl
abbrev s_l_below : Stmt := top 47
abbrev N_l_below : List Str := ["_law_d", "_law_limit", "_law_result"]
abbrev P_l_below : List Str := ["_law_d", "_law_limit"]
theorem sc_l_below : FnScope N_l_below P_l_below (defScope s_l_below) := ⟨rfl, rfl, rfl, by decide +kernel, rfl, by decide +kernel, by decide +kernel⟩
/-! ### the next number -/
def spBelow : Sp := fun vs H Q _ => ∃ (d : Addr) (n : Nat), vs = [.ref d, .int n] ∧ DAt H d ∧ 0 < n ∧ n < 1152921504606846976 ∧
  ∀ H' (r : Nat), r < n → But d H H' → DAt H' d → Q (.int r) H'
section
variable {P : Program} {w : World} {K : PySem.W.Frag} {mg : Str → Option Value} {base : Heap}
theorem ok_below {f : Addr} {fd : FuncData} (F : Fun K "_law_below" "_law_below" s_l_below f fd) (ml : mg "len" = none) : FnOk P w K mg base CX0 2 f fd P_l_below spBelow := by
  refine F.ok sc_l_below (fun vs H Q E h => ?_) (fun cdv A outer s H vs Q E hr h => ?_)
  · obtain ⟨d, n, rfl, _⟩ := h
    rfl
  · obtain ⟨d, n, rfl, ⟨s0, c, r, hs, hl, hd⟩, n0, n1, q⟩ := h
    refine ⟨_, C8.pss_cut (ps_if (PW.pt (pw_and (pt_cmpR op_eq (pe_ix ix_list (pv 0) pe_int (fun _ _ => rfl)) pe_int (nomark _)) (pw_and1 (pt_cmpR op_gt (pe_callB call_len_seq (by rfl) ml PySem.boot_len (pa_cons (pv 0) pa_nil)) pe_int (nomark _)))))
        (pss_one (ps_asg (pe_bm PySem.F.plainAttrs_list PySem.F.slot_list_pop PySem.F.type_list_pop mt_popAt (pv 0) (pa_cons pe_int pa_nil)) (pg_sub (pv 0) pe_int set_list))) pss_nil)
      (pss_cons (ps_if (pt_cmpR op_gt (pe_ix ix_list (pv 0) pe_int (fun _ _ => rfl)) pe_int (nomark _))
        (pss_cons (ps_set (i := 2) sc_l_below.nd rfl (.inl rfl) (pe_op op_modN (pe_ix ix_list (pv 0) pe_int (fun _ _ => rfl)) (pv 1)))
          (pss_cons (ps_asg (pe_op op_fdivW (pe_ix ix_list (pv 0) pe_int (fun _ _ => rfl)) (pv 1)) (pg_sub (pv 0) pe_int set_list)) (pss_one (ps_ret (pv 2))))) pss_nil)
      (pss_cons (ps_asg (pe_op op_modN (pe_op op_add (pe_op op_mul (pe_ix ix_list (pv 0) pe_int (fun _ _ => rfl)) pe_int) pe_int) pe_int) (pg_sub (pv 0) pe_int set_list))
        (pss_one (ps_ret (pe_op op_modN (pe_op op_fdivN (pe_ix ix_list (pv 0) pe_int (fun _ _ => rfl)) pe_int) (pv 1)))))), ?_⟩
    -- if d[1] == 0 and len(d) > 2: d[1] = d.pop(2)
    have rest : ∀ (s1 c1 : Nat) (r1 : List Nat) (H1 : Hp), s1 < 2147483647 → r1.length ≤ 63 → But d H H1 → H1 d = some (.lst (DL s1 c1 r1)) →
        (fun σ' H' => σ' = [some (V.ref d), some (V.int n), none] ∧ But d H H' ∧ DAt H' d : L2.St → Hp → Prop) [some (V.ref d), some (V.int n), none] H1 := fun s1 c1 r1 H1 a1 a2 a3 a4 => ⟨rfl, a3, s1, c1, r1, a1, a2, a4⟩
    refine ⟨fun σ' H' => σ' = [some (V.ref d), some (V.int n), none] ∧ But d H H' ∧ DAt H' d, ⟨_, rfl, d, _, 1, _, rfl, rfl, SqL.of hd, dl1, rfl, _, rfl, ?_⟩, ?_⟩
    · refine ite2 (fun e => ?_) (fun _ => iteF (rest s0 c r H hs hl .refl hd))
      refine ⟨_, rfl, d, _, rfl, .inl (SqL.of hd), _, _, rfl, rfl, _, rfl, ?_⟩
      refine ite2 (fun e2 => ?_) (fun _ => rest s0 c r H hs hl .refl hd)
      have e3 : 2 < ((DL s0 c r).length : Int) := of_decide_eq_true e2
      rw [dllen] at e3
      cases r with
      | nil => exact absurd e3 (by decide)
      | cons m r2 =>
        have hl2 : r2.length + 1 ≤ 63 := hl
        refine ⟨_, rfl, .inl ⟨rfl, _, SqL.of hd⟩, d, _, 2, 2, .int m, rfl, rfl, hd, by decide, by decide, ?_, rfl, ?_⟩
        · exact seqIx (n := (DL s0 c (m :: r2)).length) (j := 2) (by rw [dllen, List.length_cons]; omega)
        · refine ⟨_, rfl, d, _, 1, 1, rfl, rfl, upd_same, ?_, ?_⟩
          · exact dlx (s := s0) (c := c) (r := r2) (j := 1) (by decide)
          · refine rest s0 m r2 _ hs (by omega) (fun b o nb e => ?_) upd_same
            rw [upd_ne nb, upd_ne nb]
            exact e
    · rintro σ' H1 ⟨rfl, b1, s1, c1, r1, hs1, hl1, hd1⟩
      -- if d[1] > 0
      refine ⟨_, rfl, d, _, 1, _, rfl, rfl, SqL.of hd1, dl1, _, _, rfl, rfl, _, rfl, ite2 (fun e => ?_) (fun _ => ?_)⟩
      · refine ⟨_, rfl, d, _, 1, _, rfl, rfl, SqL.of hd1, dl1, _, rfl, _, _, rfl, rfl, by omega, ?_⟩
        refine ⟨_, rfl, d, _, 1, _, rfl, rfl, SqL.of hd1, dl1, _, rfl, _, _, rfl, rfl, wide_div (b := 60) (by omega) (by show n < 2 ^ 60; exact n1) (by decide) (by decide), ?_⟩
        refine ⟨_, rfl, d, _, 1, 1, rfl, rfl, hd1, dlx (j := 1) (by decide), ?_⟩
        refine ⟨_, rfl, ?_⟩
        show Q (V.int ((c1 : Int).fmod (n : Int))) (L2.upd H1 d (.lst (DL s1 c1 r1 |>.set 1 (V.int ((c1 / n : Nat) : Int)))))
        rw [fmod_nat]
        exact q _ _ (Nat.mod_lt _ n0) (b1.trans .upd) ⟨s1, c1 / n, r1, hs1, hl1, upd_same⟩
      · refine ⟨_, rfl, d, _, 0, _, rfl, rfl, SqL.of hd1, dl0, _, _, rfl, rfl, .inl ⟨by omega, by omega⟩, _, _, rfl, rfl, _, _, rfl, rfl, (by show (2147483647 : Int) ≠ 0; decide), ?_⟩
        refine ⟨_, rfl, d, _, 0, 0, rfl, rfl, hd1, dlx (j := 0) (by decide), ?_⟩
        have e5 : ((s1 : Int) * 48271 + 11).fmod 2147483647 = (((s1 * 48271 + 11) % 2147483647 : Nat) : Int) := fmod_nat (s1 * 48271 + 11) 2147483647
        have e6 : ((DL s1 c1 r1).set 0 (V.int (((s1 : Int) * 48271 + 11).fmod 2147483647))) = DL ((s1 * 48271 + 11) % 2147483647) c1 r1 := by
          rw [e5]
          rfl
        have hd2 : (L2.upd H1 d (.lst ((DL s1 c1 r1).set 0 (V.int (((s1 : Int) * 48271 + 11).fmod 2147483647))))) d = some (.lst (DL ((s1 * 48271 + 11) % 2147483647) c1 r1)) := by
          rw [upd_same, e6]
        refine ⟨_, rfl, d, _, 0, _, rfl, rfl, SqL.of hd2, dl0, _, _, rfl, rfl, ⟨by decide, by decide⟩, _, rfl, _, _, rfl, rfl, by omega, ?_⟩
        show Q (V.int (Int.fmod (Int.fdiv (((s1 * 48271 + 11) % 2147483647 : Nat) : Int) ((64 : Nat) : Int)) (n : Int))) _
        rw [fdiv_nat, fmod_nat]
        exact q _ _ (Nat.mod_lt _ n0) (b1.trans .upd) ⟨_, c1, r1, Nat.mod_lt _ (by decide), hl1, hd2⟩
end
abbrev s_l_random : Stmt := top 46
abbrev N_l_random : List Str := ["_law_script", "_law_salt", "_law_seed", "_law_cell"]
abbrev P_l_random : List Str := ["_law_script", "_law_salt"]
theorem sc_l_random : FnScope N_l_random P_l_random (defScope s_l_random) := ⟨rfl, rfl, rfl, by decide +kernel, rfl, by decide +kernel, by decide +kernel⟩
/-! ### the source of numbers -/
def spRandom (K : PySem.W.Frag) : Sp := fun vs H Q _ => ∃ (a : Addr) (ns : List Int) (salt : Nat), vs = [.ref a, .int salt] ∧ SqL K H a (ns.map V.int) ∧ ns.length ≤ 63 ∧ salt < 2147483647 ∧
  ∀ H' d, Same H H' → H d = none → DAt H' d → Q (.ref d) H'
section
variable {P : Program} {w : World} {K : PySem.W.Frag} {mg : Str → Option Value} {base : Heap}
theorem ok_random {f : Addr} {fd : FuncData} (F : Fun K "_law_random" "_law_random" s_l_random f fd) (B : Blt mg) : FnOk P w K mg base CX0 2 f fd P_l_random (spRandom K) := by
  refine F.ok sc_l_random (fun vs H Q E h => ?_) (fun cdv A outer s H vs Q E hr h => ?_)
  · obtain ⟨a, ns, salt, rfl, _⟩ := h
    rfl
  · obtain ⟨a, ns, salt, rfl, hS, hlen, hsalt, q⟩ := h
    refine ⟨_, pss_cons (ps_set (i := 2) sc_l_random.nd rfl (.inl rfl) (pv 1))
      (pss_cons (ps_for PassesOwn.never rfl (pi_list (pv 0)) (pg_name (i := 3) sc_l_random.nd rfl (.inl rfl))
        (pss_one (ps_set (i := 2) sc_l_random.nd rfl (.inl rfl) (pe_op op_modN (pe_op op_add (pe_op op_mul (pv 2) pe_int) (pe_callB call_abs (by rfl) B.abs PyProof.Rows.boot_abs (pa_cons (pv 3) pa_nil))) pe_int))))
      (pss_one (ps_ret (pe_op op_cat (pe_lst (pa_cons (pv 2) (pa_cons pe_int pa_nil)))
        (pe_lc (own := [("_law_cell", 3)]) (g := gName 3) (by rfl) sc_l_random.nd (pi_list (pv 0)) (blkOk_by (N := N_l_random) (sc := defScope s_l_random) (by decide +kernel))
          (fun _ _ _ _ _ => pg_name (i := 3) sc_l_random.nd rfl (.inl rfl)) (fun _ _ _ _ _ => pts_one (pt_cmpR op_ge (pv 3) (pe_op op_pow pe_int pe_int) (nomark _))) (fun _ _ _ _ _ => pv 3)))))), ?_⟩
    refine ⟨_, rfl, .ref a, rfl, a, rfl, ⟨_, hS⟩, for_list (K := K) (a := a) (xs := ns.map V.int) (fun i σ H' => ∃ (z : Nat) (v : Option V), z < 2147483647 ∧ σ = [some (.ref a), some (.int salt), some (.int z), v] ∧ H' = H)
      ⟨salt, none, hsalt, rfl, rfl⟩ (fun i σ H' _ ⟨_, _, _, _, e⟩ => by rw [e]; exact hS) ?_ ?_⟩
    · rintro i y σ H' hi ⟨z, v, hz, rfl, rfl⟩
      obtain ⟨u, rfl⟩ : ∃ u, y = V.int u := by
        rw [List.getElem?_map] at hi
        cases e : ns[i]? with
        | none => rw [e] at hi; cases hi
        | some u => rw [e] at hi; exact ⟨u, (Option.some.inj hi).symm⟩
      refine ⟨_, rfl, _, _, rfl, rfl, .inl ⟨by omega, by omega⟩, _, rfl, _, rfl, _, _, rfl, rfl, _, _, rfl, rfl, (by show (2147483647 : Int) ≠ 0; decide), ?_⟩
      have e1 : (z : Int) * 31 + (if u < 0 then -u else u) = ((z * 31 + u.natAbs : Nat) : Int) := by
        split <;> omega
      refine ⟨(z * 31 + u.natAbs) % 2147483647, some (.int u), Nat.mod_lt _ (by decide), ?_, rfl⟩
      show [some (V.ref a), some (V.int salt), some (V.int (Int.fmod ((z : Int) * 31 + (if u < 0 then -u else u)) 2147483647)), some (V.int u)] = _
      rw [e1, show ((2147483647 : Int)) = ((2147483647 : Nat) : Int) from rfl, fmod_nat]
    · rintro σ H' ⟨z, v, hz, rfl, rfl⟩
      refine ⟨_, rfl, (by show 2 ≤ sizeLine; decide), fun l nl => ?_⟩
      have sl := same_upd (o := HO.lst [V.int z, V.int 0]) nl
      refine ⟨.ref a, rfl, a, rfl, ⟨_, sl.seq hS⟩, fun D nD => ?_⟩
      have nDl : l ≠ D := fun e => by
        rw [← e, upd_same] at nD
        cases nD
      refine lc_list (K := K) (a := a) (xs := ns.map V.int) (fun i H1 => ∃ r : List Nat, r.length ≤ i ∧ H1 = L2.upd (L2.upd H' l (.lst [V.int z, V.int 0])) D (.lst (r.map fun (n : Nat) => V.int (n : Int))))
        ⟨[], Nat.le_refl _, rfl⟩ (fun i H1 _ ⟨r, _, e⟩ => by rw [e]; exact (same_upd nD).seq (sl.seq hS)) ?_ ?_
      · rintro i x H1 hi ⟨r, hr1, rfl⟩
        obtain ⟨u, rfl⟩ : ∃ u, x = V.int u := by
          rw [List.getElem?_map] at hi
          cases e : ns[i]? with
          | none => rw [e] at hi; cases hi
          | some u => rw [e] at hi; exact ⟨u, (Option.some.inj hi).symm⟩
        have hi63 : i < ns.length := by
          have q := (List.getElem?_eq_some_iff.mp hi).1
          rw [List.length_map] at q
          exact q
        refine ⟨rfl, _, rfl, _, _, rfl, rfl, ⟨by decide, by decide, by decide⟩, _, _, rfl, rfl, _, rfl, ite2 (fun e => ?_) (fun _ => ⟨r, by omega, rfl⟩)⟩
        have e1 : (10 : Int) ^ (18 : Int).toNat ≤ u := of_decide_eq_true e
        have e2 : (0 : Int) ≤ u := Int.le_trans (by decide) e1
        refine ⟨_, rfl, _, upd_same, ?_, r ++ [u.toNat], ?_, ?_⟩
        · rw [List.length_map]
          exact small1000 (by omega)
        · rw [List.length_append, List.length_singleton]
          omega
        · rw [upd_upd, List.map_append]
          show L2.upd _ D (.lst (_ ++ [V.int u])) = L2.upd _ D (.lst (_ ++ [V.int (u.toNat : Int)]))
          rw [Int.toNat_of_nonneg e2]
      · rintro H1 ⟨r, hr1, rfl⟩
        rw [List.length_map] at hr1
        refine ⟨l, D, _, _, rfl, rfl, (upd_ne nDl).trans upd_same, upd_same, ?_, fun d nd => ?_⟩
        · rw [List.length_map]
          exact Nat.le_of_lt (small1000 (by show 2 + r.length ≤ 1000; omega))
        · refine q _ d (sl.trans ((same_upd nD).trans (same_upd nd))) (sl.free ((same_upd nD).free nd)) ⟨z, 0, r, hz, by omega, upd_same⟩
end
/-! ### the parts of a net -/
def OrdAt (H : Hp) (v : V) (o : Od) : Prop := ∃ t, v = .ref t ∧ H t = some (.tup o.vs)
def TupKeep (H H' : Hp) : Prop := ∀ b xs, H b = some (.tup xs) → H' b = some (.tup xs)
theorem tk_of {H H' : Hp} (s : Same H H') : TupKeep H H' := fun b _ e => s b _ e
theorem But.tk {d : Addr} {H H' : Hp} (s : But d H H') (hd : DAt H d) : TupKeep H H' := fun b xs e => by
  obtain ⟨_, _, _, _, _, h3⟩ := hd
  exact s b _ (ne_of e h3 (by intro q; cases q)) e
theorem TupKeep.lst {H : Hp} {a : Addr} {xs : List V} {o : HO} (h : H a = some (.lst xs)) : TupKeep H (L2.upd H a o) := fun b ys e => by
  rw [upd_ne (ne_of e h (by intro q; cases q))]
  exact e
theorem But.updN {d p : Addr} {H H' : Hp} {o : HO} (s : But d H H') (h : H p = none) : But d H (L2.upd H' p o) := fun b u n e => by
  rw [upd_ne (ne_of_none e h)]
  exact s b u n e
theorem DAt.updN {d p : Addr} {H : Hp} {o : HO} (h : DAt H d) (n : d ≠ p) : DAt (L2.upd H p o) d := by
  obtain ⟨a, b, c, h1, h2, h3⟩ := h
  exact ⟨a, b, c, h1, h2, by rw [upd_ne n]; exact h3⟩
theorem TupKeep.trans {H H1 H2 : Hp} (a : TupKeep H H1) (b : TupKeep H1 H2) : TupKeep H H2 := fun c o e => b c o (a c o e)
theorem OrdAt.keep {H H' : Hp} {v : V} {o : Od} (k : TupKeep H H') (h : OrdAt H v o) : OrdAt H' v o := by
  obtain ⟨t, e, ht⟩ := h
  exact ⟨t, e, k _ _ ht⟩
theorem OrdsAt.keep {H H' : Hp} {ts : List V} {os : List Od} (k : TupKeep H H') (h : Paired (OrdAt H) ts os) : Paired (OrdAt H') ts os :=
  Paired.mapP h fun _ _ q => q.keep k
theorem Paired.snoc {α β : Type} {F : α → β → Prop} {x : α} {y : β} : ∀ {l1 : List α} {l2 : List β}, Paired F l1 l2 → F x y → Paired F (l1 ++ [x]) (l2 ++ [y])
  | _, _, .nil, q => .cons q .nil
  | _, _, .cons r t, q => .cons r (Paired.snoc t q)
theorem Paired.get? {α β : Type} {F : α → β → Prop} : ∀ {l1 : List α} {l2 : List β} {i : Nat} {y : β}, Paired F l1 l2 → l2[i]? = some y → ∃ x, l1[i]? = some x ∧ F x y
  | _, _, _, _, .nil, e => by simp at e
  | _, _, 0, _, .cons r _, e => by
    simp at e
    subst e
    exact ⟨_, rfl, r⟩
  | _, _, i + 1, y, .cons _ t, e => by
    obtain ⟨u, h1, h2⟩ := Paired.get? (i := i) (y := y) t (by simpa using e)
    exact ⟨u, by simpa using h1, h2⟩
structure NetOk (p h : Nat) (os : List Od) : Prop where
  p1 : 1 ≤ p
  p30 : p ≤ 30
  h1 : 1 ≤ h
  h10 : h ≤ 10
  len : os.length ≤ 20
  ok : ∀ o ∈ os, OdOk p h o
/-- the orders' tuple -/
def OrdsTup (H : Hp) (t : Addr) (os : List Od) : Prop := ∃ ts, H t = some (.tup ts) ∧ Paired (OrdAt H) ts os
theorem OrdsTup.keep {H H' : Hp} {t : Addr} {os : List Od} (k : TupKeep H H') (h : OrdsTup H t os) : OrdsTup H' t os := by
  obtain ⟨ts, h1, h2⟩ := h
  exact ⟨ts, k _ _ h1, OrdsAt.keep k h2⟩
def PartsAt (H : Hp) (a : Addr) (p h : Nat) (os : List Od) : Prop := ∃ t, H a = some (.tup [.int p, .int h, .ref t]) ∧ OrdsTup H t os
theorem PartsAt.keep {H H' : Hp} {a : Addr} {p h : Nat} {os : List Od} (k : TupKeep H H') (q : PartsAt H a p h os) : PartsAt H' a p h os := by
  obtain ⟨t, h1, h2⟩ := q
  exact ⟨t, k _ _ h1, h2.keep k⟩
abbrev s_is_integer : Stmt := top 20
abbrev N_is_integer : List Str := ["value"]
abbrev P_is_integer : List Str := ["value"]
theorem sc_is_integer : FnScope N_is_integer P_is_integer (defScope s_is_integer) := ⟨rfl, rfl, rfl, by decide +kernel, rfl, by decide +kernel, by decide +kernel⟩
abbrev s_is_within : Stmt := top 21
abbrev N_is_within : List Str := ["value", "low", "high"]
abbrev P_is_within : List Str := ["value", "low", "high"]
theorem sc_is_within : FnScope N_is_within P_is_within (defScope s_is_within) := ⟨rfl, rfl, rfl, by decide +kernel, rfl, by decide +kernel, by decide +kernel⟩
abbrev s_is_order : Stmt := top 31
abbrev N_is_order : List Str := ["period", "houses", "order", "source", "target", "first", "days", "delay"]
abbrev P_is_order : List Str := ["period", "houses", "order"]
theorem sc_is_order : FnScope N_is_order P_is_order (defScope s_is_order) := ⟨rfl, rfl, rfl, by decide +kernel, rfl, by decide +kernel, by decide +kernel⟩
abbrev s_check_orders : Stmt := top 32
abbrev N_check_orders : List Str := ["period", "houses", "orders", "index", "order"]
abbrev P_check_orders : List Str := ["period", "houses", "orders"]
theorem sc_check_orders : FnScope N_check_orders P_check_orders (defScope s_check_orders) := ⟨rfl, rfl, rfl, by decide +kernel, rfl, by decide +kernel, by decide +kernel⟩
/-! ### is_within, is_order, check_orders -/
/-- a value that is no int (a bool, or a thing of another built-in type) -/
def NotInt (K : PySem.W.Frag) (H : Hp) (x : V) : Prop := (∃ b, x = .bl b) ∨ ∃ t, TyX K H x (.type t) ∧ kitB t "int" = some false
def Kn (K : PySem.W.Frag) (H : Hp) (x : V) : Prop := (∃ i, x = .int i) ∨ (NotInt K H x ∧ ∀ i, x ≠ .int i)
def withinB (x : V) (lo hi : Int) : Bool := match x with
  | .int v => decide (lo ≤ v) && decide (v ≤ hi)
  | _ => false
theorem Kn.int {K : PySem.W.Frag} {H : Hp} {i : Int} : Kn K H (.int i) := .inl ⟨i, rfl⟩
theorem withinB_no {x : V} {lo hi : Int} (h : ∀ i, x ≠ .int i) : withinB x lo hi = false := by
  unfold withinB
  split
  · rename_i v
    exact absurd rfl (h v)
  · rfl
def isIntB (x : V) : Bool := match x with
  | .int _ => true
  | _ => false
theorem isIntB_no {x : V} (h : ∀ i, x ≠ .int i) : isIntB x = false := by
  unfold isIntB
  split
  · rename_i v
    exact absurd rfl (h v)
  · rfl
def spIsInt (K : PySem.W.Frag) : Sp := fun vs H Q _ => ∃ (x : V), vs = [x] ∧ Kn K H x ∧ Q (.bl (isIntB x)) H
def spWithin (K : PySem.W.Frag) : Sp := fun vs H Q _ => ∃ (x : V) (lo hi : Int), vs = [x, .int lo, .int hi] ∧ Kn K H x ∧ Q (.bl (withinB x lo hi)) H
section
variable {P : Program} {w : World} {K : PySem.W.Frag} {mg : Str → Option Value} {base : Heap}
theorem ok_isint {f : Addr} {fd : FuncData} (F : Fun K "is_integer" "is_integer" s_is_integer f fd) (B : Blt mg) : FnOk P w K mg base CX0 1 f fd P_is_integer (spIsInt K) := by
  refine F.ok sc_is_integer (fun vs H Q E h => ?_) (fun cdv A outer s H vs Q E hr h => ?_)
  · obtain ⟨x, rfl, _⟩ := h
    rfl
  · obtain ⟨x, rfl, hk, q⟩ := h
    refine ⟨_, pss_one (ps_ret (pe_and (pe_callB call_isi (by rfl) B.isi PyProof.Rows.boot_isinstance (pa_cons (pv 0) (pa_cons (pe_bltn (v := .ty "int") (by rfl) B.int (by decide +kernel) rfl) pa_nil)))
      (pe_one (pe_not (pe_callB call_isi (by rfl) B.isi PyProof.Rows.boot_isinstance (pa_cons (pv 0) (pa_cons (pe_bltn (v := .ty "bool") (by rfl) B.bool (by decide +kernel) rfl) pa_nil))))))), ?_⟩
    rcases hk with ⟨v, rfl⟩ | ⟨⟨b, rfl⟩ | ⟨t, ty, kt⟩, hne⟩
    · refine ⟨_, rfl, _, _, _, _, true, rfl, .ty "int", .base (.int v), kit_ty (by decide +kernel), _, rfl, iteT ?_⟩
      exact ⟨_, rfl, _, _, _, _, false, rfl, .ty "bool", .base (.int v), kit_ty (by decide +kernel), _, rfl, q⟩
    · refine ⟨_, rfl, _, _, _, _, true, rfl, .ty "int", .base (.bl b), kit_ty (by decide +kernel), _, rfl, iteT ?_⟩
      exact ⟨_, rfl, _, _, _, _, true, rfl, .ty "bool", .base (.bl b), kit_ty (by decide +kernel), _, rfl, q⟩
    · rw [isIntB_no hne] at q
      exact ⟨_, rfl, _, _, _, _, false, rfl, .ty "int", ty, kit_ty kt, _, rfl, iteF q⟩
theorem ok_within {f : Addr} {fd : FuncData} (F : Fun K "is_within" "is_within" s_is_within f fd) (DI : Df P w K mg base "is_integer" 1 P_is_integer (spIsInt K)) : FnOk P w K mg base CX0 2 f fd P_is_within (spWithin K) := by
  obtain ⟨fI, fdI, gI, KI, bI, GI⟩ := DI
  refine F.ok sc_is_within (fun vs H Q E h => ?_) (fun cdv A outer s H vs Q E hr h => ?_)
  · obtain ⟨x, lo, hi, rfl, _⟩ := h
    rfl
  · obtain ⟨x, lo, hi, rfl, hk, q⟩ := h
    refine ⟨_, pss_one (ps_ret (pe_and (pe_call GI hr (by rfl) gI KI bI .nil pass0 (pa_cons (pv 0) pa_nil))
      (pe_one (pe_chain op_le op_le (pv 1) (pv 0) (pv 2))))), ?_⟩
    refine ⟨_, rfl, x, rfl, hk, ?_⟩
    cases x with
    | int v =>
      refine ⟨_, rfl, iteT ?_⟩
      refine ⟨_, rfl, _, rfl, _, _, rfl, rfl, _, rfl, ite2 (fun e => ?_) (fun e => ?_)⟩
      · refine ⟨_, rfl, _, _, rfl, rfl, ?_⟩
        have q2 : Q (.bl (decide (lo ≤ v) && decide (v ≤ hi))) H := q
        rw [e, Bool.true_and] at q2
        exact q2
      · have q2 : Q (.bl (decide (lo ≤ v) && decide (v ≤ hi))) H := q
        rw [Bool.eq_false_iff.mpr e, Bool.false_and] at q2
        exact q2
    | _ => exact ⟨_, rfl, iteF q⟩
end
/-- what is_order says of the values of a tuple -/
def orderB (p h : Int) : List V → Bool
  | [s, t, f, n, e] => withinB s 0 (h - 1) && (withinB t 0 (h - 1) && (!decide (s = t) && (withinB f 0 (p - 1) && (withinB n 1 p && withinB e 1 9))))
  | _ => false
theorem within_nat {v lo hi : Nat} (h1 : lo ≤ v) (h2 : v ≤ hi) : withinB (.int v) lo hi = true := by
  show (decide ((lo : Int) ≤ v) && decide ((v : Int) ≤ hi)) = true
  rw [decide_eq_true (by omega), decide_eq_true (by omega)]
  rfl
theorem orderB_ok {p h : Nat} {o : Od} (k : OdOk p h o) : orderB p h o.vs = true := by
  have a1 := k.s; have a2 := k.t; have a3 := k.st; have a4 := k.f; have a5 := k.n1; have a6 := k.n; have a7 := k.e1; have a8 := k.e
  show (withinB (.int o.s) 0 ((h : Int) - 1) && (withinB (.int o.t) 0 ((h : Int) - 1) && (!decide (V.int o.s = V.int o.t) && (withinB (.int o.f) 0 ((p : Int) - 1) && (withinB (.int o.n) 1 p && withinB (.int o.e) 1 9))))) = true
  have e1 : ((h : Int) - 1) = ((h - 1 : Nat) : Int) := by omega
  have e2 : ((p : Int) - 1) = ((p - 1 : Nat) : Int) := by omega
  rw [e1, e2]
  have b1 : withinB (.int o.s) 0 ((h - 1 : Nat) : Int) = true := within_nat (lo := 0) (by omega) (by omega)
  have b2 : withinB (.int o.t) 0 ((h - 1 : Nat) : Int) = true := within_nat (lo := 0) (by omega) (by omega)
  have b3 : withinB (.int o.f) 0 ((p - 1 : Nat) : Int) = true := within_nat (lo := 0) (by omega) (by omega)
  have b4 : withinB (.int o.n) 1 p = true := within_nat (lo := 1) (by omega) (by omega)
  have b5 : withinB (.int o.e) 1 9 = true := within_nat (lo := 1) (hi := 9) (by omega) (by omega)
  have b6 : decide (V.int (o.s : Int) = V.int o.t) = false := decide_eq_false fun z => a3 (by
    have z2 := V.int.inj z
    omega)
  rw [b1, b2, b3, b4, b5, b6]
  rfl
/-- what may be asked whether it is an order: a tuple of known values, or a thing that is no tuple -/
def OrderLike (K : PySem.W.Frag) (H : Hp) (v : V) (p h : Int) (b : Bool) : Prop :=
  (∃ a xs, v = .ref a ∧ H a = some (.tup xs) ∧ (∀ x ∈ xs, Kn K H x) ∧ b = orderB p h xs) ∨ (∃ t, TyX K H v (.type t) ∧ kitB t "tuple" = some false ∧ b = false)
theorem OrdAt.like {K : PySem.W.Frag} {H : Hp} {v : V} {o : Od} {p h : Nat} (k : OdOk p h o) (q : OrdAt H v o) : OrderLike K H v p h true := by
  obtain ⟨t, rfl, ht⟩ := q
  refine .inl ⟨t, _, rfl, ht, fun x hx => ?_, (orderB_ok k).symm⟩
  unfold Od.vs at hx
  simp only [List.mem_cons, List.not_mem_nil, or_false] at hx
  rcases hx with rfl | rfl | rfl | rfl | rfl <;> exact Kn.int
theorem withinB_int {x : V} {lo hi : Int} (h : withinB x lo hi = true) : ∃ i, x = .int i := by
  cases x <;> first
    | exact ⟨_, rfl⟩
    | cases h
def spIsOrder (K : PySem.W.Frag) : Sp := fun vs H Q _ => ∃ (v : V) (p h : Int) (b : Bool), vs = [.int p, .int h, v] ∧ OrderLike K H v p h b ∧ Q (.bl b) H
section
variable {P : Program} {w : World} {K : PySem.W.Frag} {mg : Str → Option Value} {base : Heap}
theorem ok_is_order {f : Addr} {fd : FuncData} (F : Fun K "is_order" "is_order" s_is_order f fd) (B : Blt mg) (DW : Df P w K mg base "is_within" 2 P_is_within (spWithin K)) (hM : ∃ t, mg "LONGEST_DELAY" = some (.int 9 t)) : FnOk P w K mg base CX0 3 f fd P_is_order (spIsOrder K) := by
  obtain ⟨fW, fdW, gW, kW, bW, GW⟩ := DW
  obtain ⟨tk9, hM⟩ := hM
  refine F.ok sc_is_order (fun vs H Q E h => ?_) (fun cdv A outer s H vs Q E hr h => ?_)
  · obtain ⟨v, p, h, b, rfl, _⟩ := h
    rfl
  · obtain ⟨v, p, h, b, rfl, hl, q⟩ := h
    refine ⟨_, pss_cons (ps_if (PW.pt (pw_or (pt_not (pt_val (pe_callB call_isi (by rfl) B.isi PyProof.Rows.boot_isinstance (pa_cons (pv 2) (pa_cons (pe_bltn (v := .ty "tuple") (by rfl) B.tuple (by decide +kernel) rfl) pa_nil)))))
        (pw_or1 (pt_cmpR op_ne (pe_callB call_len_seq (by rfl) B.len PySem.boot_len (pa_cons (pv 2) pa_nil)) pe_int (nomark _))))) (pss_one (ps_ret pe_bl)) pss_nil)
      (pss_cons (ps_asg (pv 2) (pg_tup (by rfl) (pgs_cons (pg_name (i := 3) sc_is_order.nd rfl (.inl rfl)) (pgs_cons (pg_name (i := 4) sc_is_order.nd rfl (.inl rfl)) (pgs_cons (pg_name (i := 5) sc_is_order.nd rfl (.inl rfl))
        (pgs_cons (pg_name (i := 6) sc_is_order.nd rfl (.inl rfl)) (pgs_cons (pg_name (i := 7) sc_is_order.nd rfl (.inl rfl)) pgs_nil)))))))
      (pss_cons (ps_if (pt_not (PW.pt (pw_and (pt_val (pe_call GW hr (by rfl) gW kW bW .nil pass0 (pa_cons (pv 3) (pa_cons pe_int (pa_cons (pe_op op_sub (pv 1) pe_int) pa_nil)))))
        (pw_and (pt_val (pe_call GW hr (by rfl) gW kW bW .nil pass0 (pa_cons (pv 4) (pa_cons pe_int (pa_cons (pe_op op_sub (pv 1) pe_int) pa_nil)))))
          (pw_and1 (pt_cmpR op_ne (pv 3) (pv 4) (nomark _))))))) (pss_one (ps_ret pe_bl)) pss_nil)
      (pss_one (ps_ret (pe_and (pe_call GW hr (by rfl) gW kW bW .nil pass0 (pa_cons (pv 5) (pa_cons pe_int (pa_cons (pe_op op_sub (pv 0) pe_int) pa_nil))))
        (pe_and (pe_call GW hr (by rfl) gW kW bW .nil pass0 (pa_cons (pv 6) (pa_cons pe_int (pa_cons (pv 0) pa_nil))))
          (pe_one (pe_call GW hr (by rfl) gW kW bW .nil pass0 (pa_cons (pv 7) (pa_cons pe_int (pa_cons (pe_glob (v := .int 9) rfl hM ⟨_, rfl⟩) pa_nil))))))))))), ?_⟩
    rcases hl with ⟨a, xs, rfl, ha, hkn, rfl⟩ | ⟨t, ty, kt, rfl⟩
    · refine ⟨_, rfl, _, _, _, _, true, rfl, .ty "tuple", .base (.tup ha), kit_ty (by decide +kernel), _, rfl, iteF ?_⟩
      refine ⟨_, rfl, a, xs, rfl, .inr (SqT.of ha), rfl, _, rfl, ?_⟩
      refine ite2 (fun e => ?_) (fun e => ?_)
      · have hne : orderB p h xs = false := by
          match xs, e with
          | [], _ => rfl
          | [_], _ => rfl
          | [_, _], _ => rfl
          | [_, _, _], _ => rfl
          | [_, _, _, _], _ => rfl
          | [_, _, _, _, _], e => exact absurd e (by show ¬ (!decide (V.int ((5 : Nat) : Int) = V.int 5)) = true; decide)
          | _ :: _ :: _ :: _ :: _ :: _ :: _, _ => rfl
        rw [hne] at q
        exact q
      · have h5 : xs.length = 5 := by
          by_cases z : xs.length = 5
          · exact z
          · exact absurd (show (!decide (V.int (xs.length : Int) = V.int 5)) = true by
              rw [decide_eq_false (fun z2 => z (by have z3 := V.int.inj z2; omega))]
              rfl) e
        match xs, h5 with
        | [x1, x2, x3, x4, x5], _ =>
          have k1 := hkn x1 (by simp)
          have k2 := hkn x2 (by simp)
          have k3 := hkn x3 (by simp)
          have k4 := hkn x4 (by simp)
          have k5 := hkn x5 (by simp)
          refine ⟨_, rfl, a, _, rfl, SqT.of ha, rfl, _, _, rfl, _, _, rfl, _, _, rfl, _, _, rfl, _, _, rfl, rfl, ?_⟩
          have q2 : Q (.bl (withinB x1 0 (h - 1) && (withinB x2 0 (h - 1) && (!decide (x1 = x2) && (withinB x3 0 (p - 1) && (withinB x4 1 p && withinB x5 1 9)))))) H := q
          refine ⟨_, rfl, _, rfl, _, _, rfl, rfl, x1, 0, h - 1, rfl, k1, _, rfl, ite2 (fun e1 => ?_) (fun e1 => ?_)⟩
          · refine ⟨_, rfl, _, rfl, _, _, rfl, rfl, x2, 0, h - 1, rfl, k2, _, rfl, ite2 (fun e2 => ?_) (fun e2 => ?_)⟩
            · obtain ⟨i1, rfl⟩ := withinB_int e1
              obtain ⟨i2, rfl⟩ := withinB_int e2
              rw [e1, e2, Bool.true_and, Bool.true_and] at q2
              refine ⟨_, rfl, _, rfl, rfl, _, rfl, ?_⟩
              by_cases z : V.int i1 = V.int i2
              · rw [decide_eq_true z] at q2
                rw [decide_eq_true z]
                exact q2
              · rw [decide_eq_false z, Bool.not_false, Bool.true_and] at q2
                rw [decide_eq_false z]
                refine ⟨_, rfl, _, rfl, _, _, rfl, rfl, x3, 0, p - 1, rfl, k3, _, rfl, ite2 (fun e3 => ?_) (fun e3 => ?_)⟩
                · rw [e3, Bool.true_and] at q2
                  refine ⟨_, rfl, _, rfl, x4, 1, p, rfl, k4, _, rfl, ite2 (fun e4 => ?_) (fun e4 => ?_)⟩
                  · rw [e4, Bool.true_and] at q2
                    exact ⟨_, rfl, x5, 1, 9, rfl, k5, q2⟩
                  · rw [Bool.eq_false_iff.mpr e4, Bool.false_and] at q2
                    exact q2
                · rw [Bool.eq_false_iff.mpr e3, Bool.false_and] at q2
                  exact q2
            · rw [e1, Bool.eq_false_iff.mpr e2, Bool.true_and, Bool.false_and] at q2
              exact iteT q2
          · rw [Bool.eq_false_iff.mpr e1, Bool.false_and] at q2
            exact iteT q2
    · exact ⟨_, rfl, _, _, _, _, false, rfl, .ty "tuple", ty, kit_ty kt, _, rfl, iteT q⟩
end
/-! ### walks over an enumerated tuple; check_orders for valid nets; find_followed -/
theorem for_enumT {K : PySem.W.Frag} {a : Addr} {xs : List V} {g : TG} {tb : TS} {D : Ends} {σ : L2.St} {H : Hp} (Pv : Nat → L2.St → Hp → Prop) (h0 : Pv 0 σ H) (hl : ∀ i σ H, Pv i σ H → H a = some (.tup xs))
    (hs : ∀ i x σ H T, xs[i]? = some x → Pv i σ H → H T = none → g (.ref T) σ (upd H T (.tup [.int (i : Nat), x])) fun σ2 H2 => tb { D with nx := Pv (i + 1), ct := Pv (i + 1), bk := D.nx } σ2 H2) (hd : ∀ σ H, Pv xs.length σ H → D.nx σ H) :
    ∃ W : Nat → Nat → L2.St → Hp → Prop, (∃ m, W 0 m σ H) ∧ ∀ i m σ H, W i m σ H →
      ((IteT K a).stop i H ∧ D.nx σ H) ∨ ((IteT K a).go i H ∧ ∃ N : L2.St → Hp → Prop, (∀ σ' H', N σ' H' → ∃ m', m' < m ∧ W (i + 1) m' σ' H') ∧ ∀ x H', (IteT K a).yld i H x H' → g x σ H' fun σ2 H2 => tb { D with nx := N, ct := N, bk := D.nx } σ2 H2) := by
  refine ⟨fun i m σ H => m = xs.length - i ∧ i ≤ xs.length ∧ Pv i σ H, ⟨xs.length, rfl, Nat.zero_le _, h0⟩, ?_⟩
  rintro i m σ H ⟨rfl, hi, p⟩
  have q := hl i σ H p
  by_cases hlt : i < xs.length
  · refine .inr ⟨⟨xs, xs[i], SqT.of q, List.getElem?_eq_getElem hlt⟩, Pv (i + 1), fun σ' H' p' => ⟨xs.length - (i + 1), by omega, rfl, hlt, p'⟩, fun x H' y => ?_⟩
    obtain ⟨T, x', rfl, nT, rfl, f⟩ := y
    obtain rfl : x' = xs[i] := Option.some.inj ((f xs (SqT.of q)).symm.trans (List.getElem?_eq_getElem hlt))
    exact hs i _ σ H T (List.getElem?_eq_getElem hlt) p nT
  · refine .inl ⟨⟨xs, SqT.of q, by omega⟩, hd σ H ?_⟩
    rw [show xs.length = i by omega]
    exact p
def spChkOrders : Sp := fun vs H Q _ => ∃ (t : Addr) (p h : Nat) (os : List Od), vs = [.int p, .int h, .ref t] ∧ NetOk p h os ∧ OrdsTup H t os ∧ ∀ H', Same H H' → Q .non H'
section
variable {P : Program} {w : World} {K : PySem.W.Frag} {mg : Str → Option Value} {base : Heap}
theorem ok_chk_orders {f : Addr} {fd : FuncData} (F : Fun K "check_orders" "check_orders" s_check_orders f fd) (B : Blt mg) (DI : Df P w K mg base "is_order" 3 P_is_order (spIsOrder K)) (hM : ∃ t, mg "MOST_ORDERS" = some (.int 20 t)) : FnOk P w K mg base CX0 4 f fd P_check_orders spChkOrders := by
  obtain ⟨fI, fdI, gI, kI, bI, GI⟩ := DI
  obtain ⟨tk20, hM⟩ := hM
  refine F.ok sc_check_orders (fun vs H Q E h => ?_) (fun cdv A outer s H vs Q E hr h => ?_)
  · obtain ⟨t, p, h, os, rfl, _⟩ := h
    rfl
  · obtain ⟨t, p, h, os, rfl, N, ⟨ts, ht, hP⟩, q⟩ := h
    refine ⟨_, pss_cons (ps_if (pt_not (pt_val (pe_callB call_isi (by rfl) B.isi PyProof.Rows.boot_isinstance (pa_cons (pv 2) (pa_cons (pe_bltn (v := .ty "tuple") (by rfl) B.tuple (by decide +kernel) rfl) pa_nil))))) (pss_one ps_never) pss_nil)
      (pss_one (ps_for PassesOwn.never rfl (pi_enumT (by rfl) B.enum (pa_cons (pv 2) pa_nil)) (pg_tup (by rfl) (pgs_cons (pg_name (i := 3) sc_check_orders.nd rfl (.inl rfl)) (pgs_cons (pg_name (i := 4) sc_check_orders.nd rfl (.inl rfl)) pgs_nil)))
        (pss_one (ps_if (PW.pt (pw_or (pt_cmpR op_eq (pv 3) (pe_glob (v := .int 20) rfl hM ⟨_, rfl⟩) (nomark _)) (pw_or1 (pt_not (pt_val (pe_call GI hr (by rfl) gI kI bI .nil pass0 (pa_cons (pv 0) (pa_cons (pv 1) (pa_cons (pv 4) pa_nil)))))))))
          (pss_one ps_never) pss_nil)))), ?_⟩
    refine ⟨_, rfl, _, _, _, _, true, rfl, .ty "tuple", .base (.tup ht), kit_ty (by decide +kernel), _, rfl, iteF ?_⟩
    refine ⟨_, rfl, t, ts, rfl, ht, for_enumT (K := K) (a := t) (xs := ts) (fun i σ H' => (∃ x y, σ = [some (.int p), some (.int h), some (.ref t), x, y]) ∧ Same H H') ⟨⟨_, _, rfl⟩, .refl H⟩ (fun i σ H' ⟨_, s1⟩ => s1 _ _ ht) ?_ ?_⟩
    · rintro i x σ H1 T hi ⟨⟨x3, x4, rfl⟩, s1⟩ nT
      have s2 := same_upd (o := HO.tup [.int (i : Nat), x]) nT
      have hil : i < ts.length := (List.getElem?_eq_some_iff.mp hi).1
      have hlen := hP.length
      have hlen2 := N.len
      refine ⟨T, _, rfl, SqT.of upd_same, rfl, _, _, rfl, _, _, rfl, rfl, ?_⟩
      refine ⟨_, rfl, rfl, _, rfl, ?_⟩
      have e1 : decide (V.int ((i : Nat) : Int) = V.int 20) = false := decide_eq_false fun z => by
        have z2 := V.int.inj z
        omega
      rw [e1]
      obtain ⟨x', hx', ho⟩ := Paired.get? (i := i) hP (List.getElem?_eq_getElem (by omega))
      obtain rfl : x' = x := Option.some.inj (hx'.symm.trans hi)
      have hk := N.ok _ (List.getElem_mem (by omega : i < os.length))
      exact iteF ⟨_, rfl, _, rfl, _, rfl, x', p, h, true, rfl, OrdAt.like hk (ho.keep (tk_of (s1.trans s2))), _, rfl, iteF ⟨⟨_, _, rfl⟩, s1.trans s2⟩⟩
    · rintro σ H1 ⟨_, s1⟩
      exact q H1 s1
end
/-! the table of the orders that are followed -/
def amongB (p f : Nat) : Nat → Nat → Bool
  | 0, _ => false
  | l + 1, d => amongB p f l d || decide ((f + l) % p = d)
theorem amongB_iff {p f d : Nat} : ∀ l, amongB p f l d = true ↔ among p f l d
  | 0 => ⟨fun h => Bool.noConfusion h, fun h => absurd h (among_zero _ _ _)⟩
  | l + 1 => by
    show (amongB p f l d || decide ((f + l) % p = d)) = true ↔ _
    rw [among_succ, Bool.or_eq_true, amongB_iff l, decide_eq_true_iff]
def cellV (p : Nat) (os : List Od) (s d : Nat) : V := optV (idx p os s (d : Int))
/-- amid the order o, the k-th: its first l days are done -/
def cellM (p : Nat) (os : List Od) (o : Od) (k l s d : Nat) : V := optV ((idx p os s (d : Int)).or (if (decide (s = o.s) && amongB p o.f l d) = true then some k else none))
structure TabAt (H0 H : Hp) (fl : Addr) (p h : Nat) (g : Nat → Nat → V) (as : List Addr) : Prop where
  same : Same H0 H
  len : as.length = h
  fl0 : H0 fl = none
  flat : H fl = some (.lst (as.map V.ref))
  nd : as.Nodup
  out : fl ∉ as
  new : ∀ a ∈ as, H0 a = none
  row : ∀ i a, as[i]? = some a → H a = some (.lst ((List.range p).map (g i)))
theorem TabAt.congr {H0 H : Hp} {fl : Addr} {p h : Nat} {g g' : Nat → Nat → V} {as : List Addr} (T : TabAt H0 H fl p h g as) (e : ∀ s d, s < h → d < p → g s d = g' s d) : TabAt H0 H fl p h g' as := by
  refine { T with row := fun i a hi => ?_ }
  rw [T.row i a hi]
  have hi2 := (List.getElem?_eq_some_iff.mp hi).1
  rw [List.map_congr_left fun d hd => e i d (by rw [← T.len]; exact hi2) (List.mem_range.mp hd)]
theorem TabAt.keep {H0 H H' : Hp} {fl : Addr} {p h : Nat} {g : Nat → Nat → V} {as : List Addr} (T : TabAt H0 H fl p h g as) (s : Same H H') : TabAt H0 H' fl p h g as :=
  { T with same := T.same.trans s, flat := s _ _ T.flat, row := fun i a hi => s _ _ (T.row i a hi) }
theorem range_set {p dd : Nat} {g : Nat → V} {v : V} : ((List.range p).map g).set dd v = (List.range p).map fun d => if d = dd then v else g d := by
  apply List.ext_getElem
  · simp
  · intro i h1 h2
    rw [List.getElem_set]
    simp only [List.getElem_map, List.getElem_range]
    by_cases z : dd = i
    · subst z; simp
    · rw [if_neg z, if_neg (Ne.symm z)]
theorem TabAt.set {H0 H : Hp} {fl a : Addr} {p h s dd : Nat} {g : Nat → Nat → V} {as : List Addr} {v : V} (T : TabAt H0 H fl p h g as) (ha : as[s]? = some a) :
    TabAt H0 (upd H a (.lst (((List.range p).map (g s)).set dd v))) fl p h (fun i d => if i = s ∧ d = dd then v else g i d) as := by
  have ham : a ∈ as := List.mem_of_getElem? ha
  have sl : s < as.length := (List.getElem?_eq_some_iff.mp ha).1
  refine { T with same := fun b o e => ?_, flat := ?_, row := fun i b hi => ?_ }
  · have n : b ≠ a := fun z => by
      have q := T.new a ham
      rw [← z, e] at q
      cases q
    rw [upd_ne n]
    exact T.same _ _ e
  · have n : fl ≠ a := fun z => T.out (by rw [z]; exact ham)
    rw [upd_ne n]
    exact T.flat
  · by_cases z : i = s
    · subst z
      obtain rfl : b = a := Option.some.inj (hi.symm.trans ha)
      rw [upd_same, range_set]
      congr 2
      apply List.map_congr_left
      intro d _
      by_cases z2 : d = dd
      · simp [z2]
      · simp [z2]
    · have n : b ≠ a := fun z2 => by
        subst z2
        have i1 := (List.getElem?_eq_some_iff.mp hi)
        have i2 := (List.getElem?_eq_some_iff.mp ha)
        obtain ⟨l1, e1⟩ := i1
        obtain ⟨l2, e2⟩ := i2
        have pw := List.pairwise_iff_getElem.mp T.nd
        rcases Nat.lt_or_gt_of_ne z with q | q
        · exact pw i s l1 l2 q (e1.trans e2.symm)
        · exact pw s i l2 l1 q (e2.trans e1.symm)
      rw [upd_ne n, T.row i b hi]
      congr 2
      apply List.map_congr_left
      intro d _
      rw [if_neg (fun q => z q.1)]
def spFollowed : Sp := fun vs H Q _ => ∃ (t : Addr) (p h : Nat) (os : List Od), vs = [.int p, .int h, .ref t] ∧ NetOk p h os ∧ OrdsTup H t os ∧ ∀ H' fl as, TabAt H H' fl p h (cellV p os) as → Q (.ref fl) H'
theorem rep_flat {p : Nat} {v : V} : (List.replicate p [v]).flatten = List.replicate p v := by
  induction p with
  | zero => rfl
  | succ n ih => rw [List.replicate_succ, List.flatten_cons, ih]; rfl
theorem rep_range {p : Nat} {v : V} : List.replicate p v = (List.range p).map fun _ => v := by
  rw [List.map_const', List.length_range]
theorem optV_non {o : Option Nat} (h : optV o = .non) : o = none := by
  cases o with
  | none => rfl
  | some k => cases h
theorem cellM_hit {p i l s d : Nat} {os : List Od} {o : Od} (h : cellM p os o i l o.s ((o.f + l) % p) = .non) :
    (if s = o.s ∧ d = (o.f + l) % p then V.int (i : Nat) else cellM p os o i l s d) = cellM p os o i (l + 1) s d := by
  unfold cellM at *
  by_cases c : s = o.s ∧ d = (o.f + l) % p
  · rw [if_pos c]
    obtain ⟨c1, c2⟩ := c
    subst c1 c2
    have z := optV_non h
    rw [Option.or_eq_none_iff] at z
    rw [z.1]
    have e : (decide (o.s = o.s) && amongB p o.f (l + 1) ((o.f + l) % p)) = true := by
      rw [decide_eq_true rfl, Bool.true_and]
      exact (amongB_iff (l + 1)).mpr (among_succ.mpr (.inr rfl))
    rw [if_pos e]
    rfl
  · rw [if_neg c]
    have e : (decide (s = o.s) && amongB p o.f l d) = (decide (s = o.s) && amongB p o.f (l + 1) d) := by
      by_cases c1 : s = o.s
      · have c2 : ¬ (o.f + l) % p = d := fun z => c ⟨c1, z.symm⟩
        show _ = (_ && (amongB p o.f l d || decide ((o.f + l) % p = d)))
        rw [decide_eq_false c2, Bool.or_false]
      · rw [decide_eq_false c1, Bool.false_and, Bool.false_and]
    rw [e]
theorem cellM_miss {p i l s d : Nat} {os : List Od} {o : Od} (h : cellM p os o i l o.s ((o.f + l) % p) ≠ .non) : cellM p os o i l s d = cellM p os o i (l + 1) s d := by
  by_cases c : s = o.s ∧ d = (o.f + l) % p
  · obtain ⟨c1, c2⟩ := c
    subst c1 c2
    unfold cellM at *
    have e : (decide (o.s = o.s) && amongB p o.f (l + 1) ((o.f + l) % p)) = true := by
      rw [decide_eq_true rfl, Bool.true_and]
      exact (amongB_iff (l + 1)).mpr (among_succ.mpr (.inr rfl))
    rw [if_pos e]
    cases q : idx p os o.s ((o.f + l) % p : Nat) with
    | some k => rfl
    | none =>
      rw [q] at h
      by_cases c : (decide (o.s = o.s) && amongB p o.f l ((o.f + l) % p)) = true
      · rw [if_pos c]
      · rw [if_neg c] at h
        exact absurd rfl h
  · unfold cellM
    have e : (decide (s = o.s) && amongB p o.f l d) = (decide (s = o.s) && amongB p o.f (l + 1) d) := by
      by_cases c1 : s = o.s
      · have c2 : ¬ (o.f + l) % p = d := fun z => c ⟨c1, z.symm⟩
        show _ = (_ && (amongB p o.f l d || decide ((o.f + l) % p = d)))
        rw [decide_eq_false c2, Bool.or_false]
      · rw [decide_eq_false c1, Bool.false_and, Bool.false_and]
    rw [e]
theorem cellM_end {p h i s d : Nat} {os : List Od} {o : Od} (k : OdOk p h o) (hi : os[i]? = some o) (hd : d < p) : cellM p (os.take i) o i o.n s d = cellV p (os.take (i + 1)) s d := by
  unfold cellM cellV
  rw [idx_take_succ hi]
  have e : (decide (s = o.s) && amongB p o.f o.n d) = hit p s (d : Int) o := by
    unfold hit
    have e1 : amongB p o.f o.n d = onDay p o (d : Int) := by
      rw [Bool.eq_iff_iff, amongB_iff, among_on k hd]
    rw [e1]
    by_cases c : s = o.s
    · rw [decide_eq_true c, decide_eq_true c.symm]
    · rw [decide_eq_false c, decide_eq_false fun z => c z.symm]
  rw [e]
abbrev s_find_followed : Stmt := top 35
abbrev N_find_followed : List Str := ["period", "houses", "orders", "followed", "index", "source", "target", "first", "days", "delay", "later", "day", "house"]
abbrev P_find_followed : List Str := ["period", "houses", "orders"]
theorem sc_find_followed : FnScope N_find_followed P_find_followed (defScope s_find_followed) := ⟨rfl, rfl, rfl, by decide +kernel, rfl, by decide +kernel, by decide +kernel⟩
section
variable {P : Program} {w : World} {K : PySem.W.Frag} {mg : Str → Option Value} {base : Heap}
theorem ok_followed {f : Addr} {fd : FuncData} (F : Fun K "find_followed" "find_followed" s_find_followed f fd) (B : Blt mg) : FnOk P w K mg base CX0 2 f fd P_find_followed spFollowed := by
  refine F.ok sc_find_followed (fun vs H Q E h => ?_) (fun cdv A outer s H vs Q E hr h => ?_)
  · obtain ⟨t, p, h, os, rfl, _⟩ := h
    rfl
  · obtain ⟨t, p, h, os, rfl, N, hO, q⟩ := h
    obtain ⟨ts, ht, hP⟩ := id hO
    have p1 := N.p1; have p30 := N.p30; have h1 := N.h1; have h10 := N.h10; have ol := N.len
    refine ⟨_, pss_cons (ps_setLc (i := 3) (own := [("house", 12)]) (g := gName 12) (tt := tYes) (by rfl) sc_find_followed.nd rfl rfl (sw_true rfl rfl rfl (by decide +kernel))
          (pi_range1 rfl B.range (pa_cons (pv 1) pa_nil)) (blkOk_by (N := N_find_followed) (sc := defScope s_find_followed) (by decide +kernel)) (fun _ _ _ _ _ => pg_name (i := 12) sc_find_followed.nd rfl (.inl rfl)) (fun _ _ _ _ _ => pts_nil)
          (fun _ _ _ _ _ => pe_op op_rep (pe_lst (pa_cons pe_non pa_nil)) (pv 0)))
      (pss_cons (ps_for PassesOwn.never rfl (pi_enumT (by rfl) B.enum (pa_cons (pv 2) pa_nil)) (pg_tup (by rfl) (pgs_cons (pg_name (i := 4) sc_find_followed.nd rfl (.inl rfl)) (pgs_cons (pg_tup (by rfl)
            (pgs_cons (pg_name (i := 5) sc_find_followed.nd rfl (.inl rfl)) (pgs_cons (pg_name (i := 6) sc_find_followed.nd rfl (.inl rfl)) (pgs_cons (pg_name (i := 7) sc_find_followed.nd rfl (.inl rfl)) (pgs_cons (pg_name (i := 8) sc_find_followed.nd rfl (.inl rfl)) (pgs_cons (pg_name (i := 9) sc_find_followed.nd rfl (.inl rfl)) pgs_nil)))))) pgs_nil)))
        (pss_one (ps_for PassesOwn.never rfl (pi_range1 rfl B.range (pa_cons (pv 8) pa_nil)) (pg_name (i := 10) sc_find_followed.nd rfl (.inl rfl))
          (pss_cons (ps_set (i := 11) sc_find_followed.nd rfl (.inl rfl) (pe_op op_modN (pe_op op_add (pv 7) (pv 10)) (pv 0)))
          (pss_one (ps_if (pt_cmpR op_isN (pe_ix ix_list (pe_ix ix_list (pv 3) (pv 5) (fun _ _ => rfl)) (pv 11) (fun _ _ => rfl)) pe_non (nomark _))
            (pss_one (ps_asg (pv 4) (pg_sub (pe_ix ix_list (pv 3) (pv 5) (fun _ _ => rfl)) (pv 11) set_list))) pss_nil))))))
      (pss_one (ps_ret (pv 3)))), ?_⟩
    -- the empty table
    refine ⟨_, rfl, h, rfl, by omega, by omega, fun D nD => ?_⟩
    refine lc_range (lo := 0) (n := (h : Int).toNat) (fun i H' => ∃ as, TabAt H H' D p i (fun _ _ => .non) as) ⟨[], same_upd nD, rfl, nD, upd_same, List.nodup_nil, by simp, by simp, fun i a z => by simp at z⟩ ?_ ?_
    · rintro i H' hi ⟨as, T⟩
      refine ⟨rfl, Nat.le_trans (by decide : 1 ≤ 1000) (Nat.le_of_lt (small1000 (Nat.le_refl _))), fun l0 nl0 => ?_⟩
      have T1 := T.keep (same_upd (o := HO.lst [V.non]) nl0)
      refine ⟨_, rfl, l0, p, [.non], rfl, rfl, upd_same, by omega, by omega, Nat.le_of_lt (small1000 (by show 1 * (p : Int).toNat ≤ 1000; omega)), fun r nr => ?_⟩
      have T2 := T1.keep (same_upd (o := HO.lst (List.replicate (p : Int).toNat [V.non]).flatten) nr)
      have fD := T2.flat
      refine ⟨_, fD, small1000 (by rw [List.length_map, T.len]; omega), as ++ [r], ?_⟩
      have nrD : r ≠ D := (ne_of_none T1.flat nr).symm
      have nas : r ∉ as := fun z => by
        obtain ⟨j, hj⟩ := List.getElem?_of_mem z
        exact ne_of_none (T1.row j r hj) nr rfl
      have nr0 : H r = none := T1.same.free nr
      refine ⟨fun b o e => ?_, by rw [List.length_append, T.len]; rfl, T.fl0, ?_, ?_, ?_, ?_, ?_⟩
      · rw [upd_ne (ne_of_none e T.fl0)]
        exact T2.same _ _ e
      · rw [upd_same, List.map_append]
        rfl
      · rw [List.nodup_append]
        exact ⟨T.nd, by simp, fun a ha b hb => by rw [List.mem_singleton.mp hb]; exact fun z => nas (z ▸ ha)⟩
      · intro z
        rcases List.mem_append.mp z with z | z
        · exact T.out z
        · exact nrD (List.mem_singleton.mp z).symm
      · intro a ha
        rcases List.mem_append.mp ha with z | z
        · exact T.new a z
        · rw [List.mem_singleton.mp z]
          exact nr0
      · intro j a hj
        by_cases z : j < as.length
        · rw [List.getElem?_append_left z] at hj
          have hn : a ≠ D := fun z2 => T.out (by rw [← z2]; exact List.mem_of_getElem? hj)
          rw [upd_ne hn]
          exact T2.row j a hj
        · rw [List.getElem?_append_right (by omega)] at hj
          obtain ⟨hj1, hj2⟩ := List.getElem?_eq_some_iff.mp hj
          have e0 : j - as.length = 0 := by
            have : j - as.length < 1 := hj1
            omega
          have ea : a = r := by
            rw [e0] at hj
            exact (Option.some.inj hj).symm
          rw [ea, upd_ne nrD, upd_same, rep_flat, rep_range]
          rfl
    · rintro H1 ⟨as, T⟩
      have hO1 : H1 t = some (.tup ts) := T.same _ _ ht
      -- each order
      refine ⟨_, rfl, t, ts, rfl, hO1, for_enumT (K := K) (a := t) (xs := ts) (fun i σ H' => (∃ x4 x5 x6 x7 x8 x9 x10 x11, σ = [some (.int p), some (.int h), some (.ref t), some (.ref D), x4, x5, x6, x7, x8, x9, x10, x11, none]) ∧ TabAt H H' D p h (cellV p (os.take i)) as)
        ⟨⟨_, _, _, _, _, _, _, _, rfl⟩, by exact T.congr fun s d _ _ => rfl⟩ (fun i σ H' ⟨_, T'⟩ => T'.same _ _ ht) ?_ ?_⟩
      · rintro i x σ H2 X hi ⟨⟨x4, x5, x6, x7, x8, x9, x10, x11, rfl⟩, T2⟩ nX
        have T3 := T2.keep (same_upd (o := HO.tup [.int (i : Nat), x]) nX)
        have hil : i < ts.length := (List.getElem?_eq_some_iff.mp hi).1
        have hlen := hP.length
        have hio : os[i]? = some (os[i]'(by omega)) := List.getElem?_eq_getElem (by omega)
        obtain ⟨x', hx', y, rfl, hy⟩ := Paired.get? (i := i) hP hio
        obtain rfl : V.ref y = x := Option.some.inj (hx'.symm.trans hi)
        generalize eo : os[i]'(by omega) = o at hio hy
        have hk : OdOk p h o := by rw [← eo]; exact N.ok _ (List.getElem_mem _)
        have k1 := hk.s; have k4 := hk.f; have k5 := hk.n1; have k6 := hk.n
        have hy3 := T3.same _ _ hy
        refine ⟨X, _, rfl, SqT.of upd_same, rfl, _, _, rfl, _, _, rfl, ⟨y, _, rfl, SqT.of hy3, rfl, _, _, rfl, _, _, rfl, _, _, rfl, _, _, rfl, _, _, rfl, rfl, rfl, ?_⟩⟩
        refine ⟨_, rfl, o.n, rfl, by omega, by omega, for_range (lo := 0) (n := (o.n : Int).toNat) (fun l σ H' => (∃ x10 x11, σ = [some (.int p), some (.int h), some (.ref t), some (.ref D), some (.int (i : Nat)), some (.int o.s), some (.int o.t), some (.int o.f), some (.int o.n), some (.int o.e), x10, x11, none]) ∧ TabAt H H' D p h (cellM p (os.take i) o i l) as)
          ⟨⟨_, _, rfl⟩, T3.congr fun s d _ _ => ?_⟩ ?_ ?_⟩
        · show optV (idx p (os.take i) s d) = optV ((idx p (os.take i) s d).or (if (decide (s = o.s) && false) = true then some i else none))
          rw [Bool.and_false, if_neg Bool.false_ne_true, Option.or_none]
        · rintro l σ H4 hl ⟨⟨x10, x11, rfl⟩, T4⟩
          have hl2 : l < o.n := by omega
          refine ⟨_, rfl, _, rfl, _, _, rfl, rfl, _, rfl, _, _, rfl, rfl, by omega, ?_⟩
          have ed : Int.fmod ((o.f : Int) + (0 + (l : Int))) (p : Int) = (((o.f + l) % p : Nat) : Int) := by
            rw [Int.zero_add]
            exact fmod_nat (o.f + l) p
          have hd : (o.f + l) % p < p := Nat.mod_lt _ (by omega)
          generalize hdd : (o.f + l) % p = dd at ed hd
          have hsl : o.s < as.length := by rw [T4.len]; exact k1
          have ha := List.getElem?_eq_getElem hsl
          generalize as[o.s] = a at ha
          have hmap : (as.map V.ref)[o.s]? = some (.ref a) := by rw [List.getElem?_map, ha]; rfl
          have hrow := T4.row _ _ ha
          have hcell : ((List.range p).map (cellM p (os.take i) o i l o.s))[dd]? = some (cellM p (os.take i) o i l o.s dd) := by
            rw [List.getElem?_map, List.getElem?_range hd]
            rfl
          show ∃ v, _
          refine ⟨_, rfl, _, rfl, D, _, _, _, rfl, rfl, SqL.of T4.flat, atI_nat hmap, ?_⟩
          refine ⟨_, rfl, a, _, (dd : Int), _, rfl, by rw [← ed], SqL.of hrow, atI_nat hcell, ?_⟩
          refine ⟨rfl, _, rfl, ite2 (fun e => ?_) (fun e => ?_)⟩
          · have en : cellM p (os.take i) o i l o.s dd = .non := of_decide_eq_true e
            refine ⟨_, rfl, _, rfl, _, rfl, D, _, _, _, rfl, rfl, SqL.of T4.flat, atI_nat hmap, ?_⟩
            refine ⟨_, rfl, a, _, (dd : Int), dd, rfl, by rw [← ed], hrow, ix_at (by rw [List.length_map, List.length_range]; exact hd), ?_⟩
            refine ⟨⟨_, _, rfl⟩, (T4.set ha).congr fun s d hs hd2 => ?_⟩
            subst hdd
            exact cellM_hit en
          · refine ⟨⟨_, _, rfl⟩, T4.congr fun s d hs hd2 => ?_⟩
            subst hdd
            exact cellM_miss (fun z => e (decide_eq_true z))
        · rintro σ H4 ⟨⟨x10, x11, rfl⟩, T4⟩
          exact ⟨⟨_, _, _, _, _, _, _, _, rfl⟩, T4.congr fun s d hs hd => cellM_end hk hio hd⟩
      · rintro σ H2 ⟨⟨x4, x5, x6, x7, x8, x9, x10, x11, rfl⟩, T2⟩
        refine ⟨_, rfl, q _ D as (T2.congr fun s d _ _ => ?_)⟩
        rw [List.take_of_length_le (by rw [← hP.length]; exact Nat.le_refl _)]
end
abbrev s_Net_init : Stmt := inClass (top 30) 0
abbrev N_Net_init : List Str := ["self", "period", "houses", "orders"]
abbrev P_Net_init : List Str := ["self", "period", "houses", "orders"]
theorem sc_Net_init : FnScope N_Net_init P_Net_init (defScope s_Net_init) := ⟨rfl, rfl, rfl, by decide +kernel, rfl, by decide +kernel, by decide +kernel⟩
/-! ### a net, made and read -/
def NetFs (p h : Nat) (t fl : Addr) : List (Str × V) := putF "followed" (.ref fl) (putF "orders" (.ref t) (putF "houses" (.int h) (putF "period" (.int p) [])))
theorem sFO : ¬ ("orders" : Str) = "followed" := by decide +kernel
theorem sFH : ¬ ("houses" : Str) = "followed" := by decide +kernel
theorem sFP : ¬ ("period" : Str) = "followed" := by decide +kernel
theorem sOH : ¬ ("houses" : Str) = "orders" := by decide +kernel
theorem sOP : ¬ ("period" : Str) = "orders" := by decide +kernel
theorem sHP : ¬ ("period" : Str) = "houses" := by decide +kernel
theorem nf_fl {p h : Nat} {t fl : Addr} : (NetFs p h t fl).lookup ("followed" : Str) = some (.ref fl) := by
  unfold NetFs
  rw [lookup_putF, if_pos rfl]
theorem nf_or {p h : Nat} {t fl : Addr} : (NetFs p h t fl).lookup ("orders" : Str) = some (.ref t) := by
  unfold NetFs
  rw [lookup_putF, if_neg sFO, lookup_putF, if_pos rfl]
theorem nf_ho {p h : Nat} {t fl : Addr} : (NetFs p h t fl).lookup ("houses" : Str) = some (.int h) := by
  unfold NetFs
  rw [lookup_putF, if_neg sFH, lookup_putF, if_neg sOH, lookup_putF, if_pos rfl]
theorem nf_pe {p h : Nat} {t fl : Addr} : (NetFs p h t fl).lookup ("period" : Str) = some (.int p) := by
  unfold NetFs
  rw [lookup_putF, if_neg sFP, lookup_putF, if_neg sOP, lookup_putF, if_neg sHP, lookup_putF, if_pos rfl]
theorem nf_no {p h : Nat} {t fl : Addr} {m : Str} (h1 : ¬ m = "followed") (h2 : ¬ m = "orders") (h3 : ¬ m = "houses") (h4 : ¬ m = "period") : (NetFs p h t fl).lookup m = none := by
  unfold NetFs
  rw [lookup_putF, if_neg h1, lookup_putF, if_neg h2, lookup_putF, if_neg h3, lookup_putF, if_neg h4]
  rfl
/-- what the class says -/
structure NetT (K : PySem.W.Frag) (C : Addr) : Prop where
  cl : Cls K C
  nP : NoAttr K C "period"
  nH : NoAttr K C "houses"
  nO : NoAttr K C "orders"
  nF : NoAttr K C "followed"
/-- a net of these parts at x; F: its own addresses -/
def NetAt (C : Addr) (H : Hp) (x : Addr) (p h : Nat) (os : List Od) (t : Addr) (F : List Addr) : Prop := ∃ dx fl as, F = x :: fl :: as ∧ H x = some (.ins C dx (NetFs p h t fl)) ∧ OrdsTup H t os ∧
  H fl = some (.lst (as.map V.ref)) ∧ as.length = h ∧ ∀ i a, as[i]? = some a → H a = some (.lst ((List.range p).map (cellV p os i)))
theorem NetAt.keep {C : Addr} {H H' : Hp} {x : Addr} {p h : Nat} {os : List Od} {t : Addr} {F : List Addr} (N : NetAt C H x p h os t F) (k : TupKeep H H') (kf : ∀ b ∈ F, ∀ o, H b = some o → H' b = some o) : NetAt C H' x p h os t F := by
  obtain ⟨dx, fl, as, rfl, h1, h2, h3, h4, h5⟩ := N
  refine ⟨dx, fl, as, rfl, kf _ (by simp) _ h1, h2.keep k, kf _ (by simp) _ h3, h4, fun i a hi => kf _ ?_ _ (h5 i a hi)⟩
  exact List.mem_cons_of_mem _ (List.mem_cons_of_mem _ (List.mem_of_getElem? hi))
theorem NetAt.same {C : Addr} {H H' : Hp} {x : Addr} {p h : Nat} {os : List Od} {t : Addr} {F : List Addr} (N : NetAt C H x p h os t F) (s : Same H H') : NetAt C H' x p h os t F := N.keep (tk_of s) fun b _ o e => s b o e
theorem NetAt.but {C : Addr} {H H' : Hp} {x : Addr} {p h : Nat} {os : List Od} {t d : Addr} {F : List Addr} (N : NetAt C H x p h os t F) (s : But d H H') (k : TupKeep H H') (n : d ∉ F) : NetAt C H' x p h os t F := N.keep k fun b hb o e => s b o (fun z => n (z ▸ hb)) e
theorem NetAt.new {C : Addr} {H : Hp} {x : Addr} {p h : Nat} {os : List Od} {t u : Addr} {F : List Addr} (N : NetAt C H x p h os t F) (n : H u = none) : u ∉ F := by
  obtain ⟨dx, fl, as, rfl, h1, h2, h3, h4, h5⟩ := N
  intro z
  rcases List.mem_cons.mp z with z | z
  · exact ne_of_none h1 n z.symm
  rcases List.mem_cons.mp z with z | z
  · exact ne_of_none h3 n z.symm
  obtain ⟨j, hj⟩ := List.getElem?_of_mem z
  exact ne_of_none (h5 j u hj) n rfl
def spInit (C : Addr) : Sp := fun vs H Q _ => ∃ (x dx t : Addr) (p h : Nat) (os : List Od) (H0 : Hp), vs = [.ref x, .int p, .int h, .ref t] ∧ NetOk p h os ∧ OrdsTup H t os ∧ Same H0 H ∧ H0 x = none ∧ H x = some (.ins C dx []) ∧
  ∀ H' F, Same H0 H' → (∀ b ∈ F, H0 b = none) → NetAt C H' x p h os t F → Q .non H'
section
variable {P : Program} {w : World} {K : PySem.W.Frag} {mg : Str → Option Value} {base : Heap}
theorem ok_init {f C : Addr} {fd : FuncData} (F : Fun K "__init__" "Net.__init__" s_Net_init f fd) (T : NetT K C) (DW : Df P w K mg base "is_within" 2 P_is_within (spWithin K)) (DC : Df P w K mg base "check_orders" 4 P_check_orders spChkOrders)
    (DF : Df P w K mg base "find_followed" 2 P_find_followed spFollowed) (hP : ∃ t, mg "LONGEST_PERIOD" = some (.int 30 t)) (hH : ∃ t, mg "MOST_HOUSES" = some (.int 10 t)) : FnOk P w K mg base CX0 5 f fd P_Net_init (spInit C) := by
  obtain ⟨fW, fdW, gW, kW, bW, GW⟩ := DW
  obtain ⟨fC, fdC, gC, kC, bC, GC⟩ := DC
  obtain ⟨fF, fdF, gF, kF, bF, GF⟩ := DF
  obtain ⟨tkP, hP⟩ := hP
  obtain ⟨tkH, hH⟩ := hH
  refine F.ok sc_Net_init (fun vs H Q E h => ?_) (fun cdv A outer s H vs Q E hr h => ?_)
  · obtain ⟨x, dx, t, p, h, os, H0, rfl, _⟩ := h
    rfl
  · obtain ⟨x, dx, t, p, h, os, H0, rfl, N, hO, s0, x0, hx, q⟩ := h
    have hr1 : Room 2 _ := hr.mono (by decide)
    refine ⟨_, pss_cons (ps_if (pt_not (pt_val (pe_call GW hr1 (by rfl) gW kW bW .nil pass0 (pa_cons (pv 1) (pa_cons pe_int (pa_cons (pe_glob (v := .int 30) rfl hP ⟨_, rfl⟩) pa_nil)))))) (pss_one ps_never) pss_nil)
      (pss_cons (ps_if (pt_not (pt_val (pe_call GW hr1 (by rfl) gW kW bW .nil pass0 (pa_cons (pv 2) (pa_cons pe_int (pa_cons (pe_glob (v := .int 10) rfl hH ⟨_, rfl⟩) pa_nil)))))) (pss_one ps_never) pss_nil)
      (pss_cons (ps_expr (pe_call GC hr (by rfl) gC kC bC .nil pass0 (pa_cons (pv 1) (pa_cons (pv 2) (pa_cons (pv 3) pa_nil)))))
      (pss_cons (ps_fld (pv 0) (pv 1) rfl) (pss_cons (ps_fld (pv 0) (pv 2) rfl) (pss_cons (ps_fld (pv 0) (pv 3) rfl)
      (pss_one (ps_fld (pv 0) (pe_call GF hr1 (by rfl) gF kF bF .nil pass0 (pa_cons (pv 1) (pa_cons (pv 2) (pa_cons (pv 3) pa_nil)))) rfl))))))), ?_⟩
    have w1 : withinB (.int p) 1 30 = true := within_nat (lo := 1) (hi := 30) N.p1 N.p30
    have w2 : withinB (.int h) 1 10 = true := within_nat (lo := 1) (hi := 10) N.h1 N.h10
    refine ⟨_, rfl, .int p, 1, 30, rfl, .int, _, rfl, ?_⟩
    rw [w1]
    refine iteF ⟨_, rfl, .int h, 1, 10, rfl, .int, _, rfl, ?_⟩
    rw [w2]
    refine iteF ⟨_, rfl, _, rfl, _, rfl, t, p, h, os, rfl, N, hO, fun H1 s1 => ?_⟩
    have hx1 := s1 _ _ hx
    have nt : t ≠ x := by
      obtain ⟨ts, ht, _⟩ := hO
      exact ne_of ht hx (by intro z; cases z)
    refine ⟨_, rfl, _, rfl, x, C, dx, [], rfl, hx1, T.cl, T.nP, (by show 0 < 1000; decide), ?_⟩
    refine ⟨_, rfl, _, rfl, x, C, dx, _, rfl, upd_same, T.cl, T.nH, (by show 1 < 1000; decide), ?_⟩
    refine ⟨_, rfl, _, rfl, x, C, dx, _, rfl, upd_same, T.cl, T.nO, ?_, ?_⟩
    · show (putF "houses" _ (putF "period" _ [])).length < 1000
      have : (putF "houses" (.int (h : Int)) (putF "period" (.int (p : Int)) [])).length ≤ 2 := by
        show (if ("period" : Str) = "houses" then _ else _ : List (Str × V)).length ≤ 2
        rw [if_neg sHP]
        exact Nat.le_refl _
      omega
    rw [upd_upd, upd_upd]
    refine ⟨_, rfl, _, rfl, _, rfl, t, p, h, os, rfl, N, ?_, fun H2 fl as TT => ?_⟩
    · refine hO.keep fun b xs e => ?_
      have e1 := s1 _ _ e
      rw [upd_ne (ne_of e1 hx1 (by intro z; cases z))]
      exact e1
    have hx2 := TT.same _ _ (upd_same (H := H1) (a := x))
    have hflx : fl ≠ x := fun z => by
      have q1 := TT.fl0
      rw [z, upd_same] at q1
      cases q1
    have hasx : ∀ a ∈ as, a ≠ x := fun a ha z => by
      have q1 := TT.new a ha
      rw [z, upd_same] at q1
      cases q1
    refine ⟨_, rfl, x, C, dx, _, rfl, hx2, T.cl, T.nF, ?_, ?_⟩
    · show (putF "orders" _ (putF "houses" _ (putF "period" _ []))).length < 1000
      have : (putF "orders" (.ref t) (putF "houses" (.int (h : Int)) (putF "period" (.int (p : Int)) []))).length ≤ 3 := by
        show (putF "orders" (V.ref t) (if ("period" : Str) = "houses" then _ else _ : List (Str × V))).length ≤ 3
        rw [if_neg sHP]
        show (if ("period" : Str) = "orders" then _ else _ :: (if ("houses" : Str) = "orders" then _ else _) : List (Str × V)).length ≤ 3
        rw [if_neg sOP, if_neg sOH]
        exact Nat.le_refl _
      omega
    have free : ∀ b, b ≠ x → (L2.upd H1 x (.ins C dx (putF "orders" (.ref t) (putF "houses" (.int (h : Int)) (putF "period" (.int (p : Int)) []))))) b = none → H0 b = none := fun b nb e => by
      rw [upd_ne nb] at e
      exact s0.free (s1.free e)
    refine q _ (x :: fl :: as) (fun b o e => ?_) (fun b hb => ?_) ⟨dx, fl, as, rfl, upd_same, ?_, ?_, TT.len, fun i a hi => ?_⟩
    · have nb : b ≠ x := ne_of_none e x0
      rw [upd_ne nb]
      refine TT.same _ _ ?_
      rw [upd_ne nb]
      exact s1 _ _ (s0 _ _ e)
    · rcases List.mem_cons.mp hb with z | z
      · rw [z]; exact x0
      rcases List.mem_cons.mp z with z | z
      · rw [z]; exact free fl hflx TT.fl0
      · exact free b (hasx b z) (TT.new b z)
    · refine hO.keep fun b xs e => ?_
      have e1 := s1 _ _ e
      have nb : b ≠ x := ne_of e1 hx1 (by intro z; cases z)
      rw [upd_ne nb]
      refine TT.same _ _ ?_
      rw [upd_ne nb]
      exact e1
    · rw [upd_ne hflx]
      exact TT.flat
    · rw [upd_ne (hasx a (List.mem_of_getElem? hi))]
      exact TT.row i a hi
end
/-! ### the table, read -/
/-- where the table is read: followed[a][d % period] -/
theorem cell_read {C : Addr} {H : Hp} {x t : Addr} {p h a : Nat} {os : List Od} {F : List Addr} (N : NetAt C H x p h os t F) (ha : a < h) (hp : 0 < p) (d : Nat) : ∃ dx fl rows ro row, H x = some (.ins C dx (NetFs p h t fl)) ∧ H fl = some (.lst rows) ∧ rows[a]? = some (.ref ro) ∧ H ro = some (.lst row) ∧
    row[d % p]? = some (optV (idx p os a (d : Int))) := by
  obtain ⟨dx, fl, as, _, hx, _, hfl, hlen, hr⟩ := N
  have hal : a < as.length := by omega
  have e := List.getElem?_eq_getElem hal
  refine ⟨dx, fl, _, as[a], _, hx, hfl, by rw [List.getElem?_map, e]; rfl, hr a _ e, ?_⟩
  rw [List.getElem?_map, List.getElem?_range (Nat.mod_lt _ hp)]
  show some (optV (idx p os a ((d % p : Nat) : Int))) = _
  rw [idx_nat]
/-! ### stops and what is still to come: plain -/
def StopAt (H : Hp) (v : V) (s : Nat × Nat) : Prop := ∃ u, v = .ref u ∧ H u = some (.tup [.int s.1, .int s.2])
theorem StopAt.keep {H H' : Hp} {v : V} {s : Nat × Nat} (k : TupKeep H H') (h : StopAt H v s) : StopAt H' v s := by
  obtain ⟨u, e, hu⟩ := h
  exact ⟨u, e, k _ _ hu⟩
theorem StopsAt.keep {H H' : Hp} {vs : List V} {l : List (Nat × Nat)} (k : TupKeep H H') (h : Paired (StopAt H) vs l) : Paired (StopAt H') vs l := Paired.mapP h fun _ _ q => q.keep k
/-- what is still to come from a stop (or none) -/
def rest (p : Nat) (os : List Od) (n : Nat) : Option (Nat × Nat) → List (Nat × Nat)
  | none => []
  | some s => way p os n s
theorem rest_succ (p : Nat) (os : List Od) (n : Nat) (s : Nat × Nat) : rest p os (n + 1) (some s) = s :: rest p os n (hop p os s) := by
  show way p os (n + 1) s = _
  unfold way
  cases hop p os s <;> rfl
theorem rest_zero (p : Nat) (os : List Od) (o : Option (Nat × Nat)) : rest p os 0 o = [] := by cases o <;> rfl
theorem hop_house {p h : Nat} {os : List Od} {s s' : Nat × Nat} (k : NetOk p h os) (e : hop p os s = some s') : s'.1 < h := by
  unfold hop at e
  cases q : idx p os s.1 (s.2 : Int) with
  | none =>
    rw [q] at e
    cases e
  | some j =>
    simp only [q] at e
    have hj := idx_lt q
    rw [List.getElem?_eq_getElem hj] at e
    rw [← Option.some.inj e]
    exact (k.ok _ (List.getElem_mem hj)).t
/-! ### ways: plain -/
theorem way_len (p : Nat) (os : List Od) : ∀ (n : Nat) (st : Nat × Nat), (way p os n st).length ≤ n
  | 0, _ => Nat.le_refl _
  | n + 1, st => by
    show (way p os (n + 1) st).length ≤ n + 1
    rw [show way p os (n + 1) st = rest p os (n + 1) (some st) from rfl, rest_succ]
    cases h : hop p os st with
    | none => exact Nat.succ_le_succ (Nat.zero_le _)
    | some s' => exact Nat.succ_le_succ (way_len p os n s')
theorem way_house {p h : Nat} {os : List Od} (k : NetOk p h os) : ∀ {n : Nat} {st : Nat × Nat}, st.1 < h → ∀ s ∈ way p os n st, s.1 < h
  | 0, _, _, _, hm => by cases hm
  | n + 1, st, h0, s, hm => by
    rw [show way p os (n + 1) st = rest p os (n + 1) (some st) from rfl, rest_succ] at hm
    rcases List.mem_cons.mp hm with e | hm
    · rw [e]; exact h0
    · cases q : hop p os st with
      | none => rw [q] at hm; cases hm
      | some s' =>
        rw [q] at hm
        exact way_house k (hop_house k q) s hm
/-- the i-th stop, by going on from it -/
theorem way_drop {p : Nat} {os : List Od} : ∀ {n i : Nat} {st s : Nat × Nat}, (way p os n st)[i]? = some s → (way p os n st).drop i = way p os (n - i) s
  | 0, _, _, _, h => by cases h
  | n + 1, 0, st, s, h => by
    have e : st = s := Option.some.inj h
    subst e
    rfl
  | n + 1, i + 1, st, s, h => by
    have e : way p os (n + 1) st = st :: rest p os n (hop p os st) := rest_succ p os n st
    rw [e] at h ⊢
    rw [List.getElem?_cons_succ] at h
    rw [List.drop_succ_cons, Nat.succ_sub_succ]
    cases q : hop p os st with
    | none => rw [q] at h; cases h
    | some s' =>
      rw [q] at h
      exact way_drop h
/-! ### a letter followed to its end -/
def plc (p : Nat) (s : Nat × Nat) : Nat × Nat := (s.1, s.2 % p)
/-- the stops up to the first that comes back to an earlier one's place, and that one's index -/
def fol (p : Nat) : List (Nat × Nat) → List (Nat × Nat) → List (Nat × Nat) × Option Nat
  | done, [] => (done, none)
  | done, s :: r => match done.findIdx? (fun t => decide (plc p t = plc p s)) with
    | some b => (done ++ [s], some b)
    | none => fol p (done ++ [s]) r
def folR (p h : Nat) (os : List Od) (st : Nat × Nat) : List (Nat × Nat) × Option Nat := fol p [] (way p os (h * p + 1) st)
def keyOf (p : Nat) (s : Nat × Nat) : List Key := [Sum.inl (s.1 : Int), Sum.inl ((s.2 % p : Nat) : Int)]
def kvsFrom (p : Nat) : Nat → List (Nat × Nat) → List (List Key × V)
  | _, [] => []
  | k, s :: r => (keyOf p s, .int (k : Nat)) :: kvsFrom p (k + 1) r
theorem keyOf_eq {p : Nat} {s t : Nat × Nat} : keyOf p t = keyOf p s ↔ plc p t = plc p s := by
  unfold keyOf plc
  constructor
  · intro h
    have h1 : (t.1 : Int) = s.1 := Sum.inl.inj (List.cons.inj h).1
    have h2 : ((t.2 % p : Nat) : Int) = ((s.2 % p : Nat) : Int) := Sum.inl.inj (List.cons.inj (List.cons.inj h).2).1
    exact Prod.ext (by show t.1 = s.1; omega) (by show t.2 % p = s.2 % p; omega)
  · intro h
    have h1 : t.1 = s.1 := (Prod.mk.inj h).1
    have h2 : t.2 % p = s.2 % p := (Prod.mk.inj h).2
    rw [h1, h2]
theorem kvs_val {p : Nat} {s : Nat × Nat} : ∀ (l : List (Nat × Nat)) (k : Nat), valV (kvsFrom p k l) (keyOf p s) = (l.findIdx? fun t => decide (plc p t = plc p s)).map fun i => V.int ((k + i : Nat) : Int)
  | [], _ => rfl
  | t :: r, k => by
    rw [List.findIdx?_cons]
    unfold kvsFrom valV
    rw [List.find?_cons]
    by_cases c : plc p t = plc p s
    · have c2 : keyOf p t = keyOf p s := keyOf_eq.mpr c
      simp only [c, c2, decide_true, if_true, Option.map_some]
      rfl
    · have c2 : ¬ keyOf p t = keyOf p s := fun z => c (keyOf_eq.mp z)
      simp only [c, c2, decide_false, Bool.false_eq_true, if_false]
      have ih := kvs_val (p := p) (s := s) r (k + 1)
      unfold valV at ih
      rw [ih, Option.map_map]
      congr 1
      funext i
      show V.int ((k + 1 + i : Nat) : Int) = V.int ((k + (i + 1) : Nat) : Int)
      rw [show k + 1 + i = k + (i + 1) by omega]
theorem kvs_len {p : Nat} : ∀ (l : List (Nat × Nat)) (k : Nat), (kvsFrom p k l).length = l.length
  | [], _ => rfl
  | _ :: r, k => by
    show (kvsFrom p (k + 1) r).length + 1 = r.length + 1
    rw [kvs_len r (k + 1)]
theorem kvs_snoc {p : Nat} {s : Nat × Nat} : ∀ (l : List (Nat × Nat)) (k : Nat), kvsFrom p k (l ++ [s]) = kvsFrom p k l ++ [(keyOf p s, .int ((k + l.length : Nat) : Int))]
  | [], _ => rfl
  | t :: r, k => by
    show (keyOf p t, V.int (k : Nat)) :: kvsFrom p (k + 1) (r ++ [s]) = _
    rw [kvs_snoc r (k + 1)]
    show _ = (keyOf p t, V.int (k : Nat)) :: (kvsFrom p (k + 1) r ++ [(keyOf p s, V.int ((k + (r.length + 1) : Nat) : Int))])
    rw [show k + 1 + r.length = k + (r.length + 1) by omega]
theorem putK_new {κ : Type} [DecidableEq κ] {kvs : List (κ × V)} {k : κ} {v : V} (h : valV kvs k = none) : putK kvs k v = kvs ++ [(k, v)] := by
  unfold putK
  have e : (kvs.any fun kv => decide (kv.1 = k)) = false := by
    unfold valV at h
    rw [Option.map_eq_none_iff, List.find?_eq_none] at h
    rw [List.any_eq_false]
    exact h
  rw [e, if_neg Bool.false_ne_true]
theorem pair_last {α β : Type} {F : α → β → Prop} {y : α} {s : β} : ∀ {xs : List α} {l : List β}, Paired F (xs ++ [y]) (l ++ [s]) → F y s
  | [], [], h => by cases h with | cons r _ => exact r
  | [], b :: l, h => by
    cases h with
    | cons _ t =>
      have := t.length
      simp at this
  | a :: xs, [], h => by
    cases h with
    | cons _ t =>
      have := t.length
      simp at this
  | a :: xs, b :: l, h => by
    cases h with
    | cons _ t => exact pair_last t
theorem pair_split {α β : Type} {F : α → β → Prop} {s : β} : ∀ {l : List β} {xs : List α}, Paired F xs (l ++ [s]) → ∃ ys v, xs = ys ++ [v] ∧ Paired F ys l ∧ F v s
  | [], _, h => by
    cases h with
    | cons r t =>
      cases t
      exact ⟨[], _, rfl, .nil, r⟩
  | b :: l, _, h => by
    cases h with
    | cons r t =>
      obtain ⟨ys, v, rfl, h1, h2⟩ := pair_split t
      exact ⟨_ :: ys, v, rfl, .cons r h1, h2⟩
/-- what follow gives: the stops' list, the index -/
def FolAt (H H' : Hp) (r : Addr) (res : List (Nat × Nat) × Option Nat) : Prop := ∃ sl vs, H r = none ∧ H' r = some (.tup [.ref sl, optV res.2]) ∧ H sl = none ∧ H' sl = some (.lst vs) ∧ Paired (StopAt H') vs res.1
/-! ### cuts -/
theorem cut_from {xs : List V} {n : Nat} : cutV xs (some (n : Int)) none = xs.drop n := by
  unfold cutV
  rw [HT.sIx_nat, HT.sIx_none]
  by_cases c : n ≤ xs.length
  · rw [Nat.min_eq_left c, List.take_of_length_le (by rw [List.length_drop]; exact Nat.le_refl _)]
  · rw [Nat.min_eq_right (by omega), Nat.sub_self, List.take_zero, List.drop_eq_nil_iff.mpr (by omega)]
theorem cut_to {xs : List V} {n : Nat} : cutV xs none (some (n : Int)) = xs.take n := by
  unfold cutV
  rw [HT.sIx_none, HT.sIx_nat, List.drop_zero, Nat.sub_zero]
  by_cases c : n ≤ xs.length
  · rw [Nat.min_eq_left c]
  · rw [Nat.min_eq_right (by omega), List.take_of_length_le (Nat.le_refl _), List.take_of_length_le (by omega)]
/-! ### stops followed: plain mathematics -/
theorem fol_ne {p : Nat} : ∀ (l d : List (Nat × Nat)), (d ≠ [] ∨ l ≠ []) → (fol p d l).1 ≠ []
  | [], d, h => by
    rcases h with h | h
    · exact h
    · exact absurd rfl h
  | s :: r, d, _ => by
    unfold fol
    cases (d.findIdx? fun t => decide (plc p t = plc p s)) with
    | some b => simp
    | none => exact fol_ne r (d ++ [s]) (.inl (by simp))
theorem fol_len {p : Nat} : ∀ (l d : List (Nat × Nat)), (fol p d l).1.length ≤ d.length + l.length
  | [], d => by
    show d.length ≤ _
    omega
  | s :: r, d => by
    unfold fol
    cases (d.findIdx? fun t => decide (plc p t = plc p s)) with
    | some b =>
      show (d ++ [s]).length ≤ _
      rw [List.length_append, List.length_singleton, List.length_cons]
      omega
    | none =>
      have := fol_len (p := p) r (d ++ [s])
      rw [List.length_append, List.length_singleton] at this
      rw [List.length_cons]
      show (fol p (d ++ [s]) r).1.length ≤ _
      omega
theorem folR_ne {p h : Nat} {os : List Od} {st : Nat × Nat} : (folR p h os st).1 ≠ [] := by
  unfold folR
  refine fol_ne _ _ (.inr ?_)
  show way p os (h * p + 1) st ≠ []
  rw [show way p os (h * p + 1) st = rest p os (h * p + 1) (some st) from rfl, rest_succ]
  exact List.cons_ne_nil _ _
theorem folR_len {p h : Nat} {os : List Od} {st : Nat × Nat} : (folR p h os st).1.length ≤ h * p + 1 := by
  have h1 := fol_len (p := p) (way p os (h * p + 1) st) []
  have h2 := way_len p os (h * p + 1) st
  unfold folR
  simp only [List.length_nil, Nat.zero_add] at h1
  exact Nat.le_trans h1 h2
theorem small301 {p h : Nat} {os : List Od} (k : NetOk p h os) : h * p + 1 ≤ 301 := by
  have : h * p ≤ 10 * 30 := Nat.mul_le_mul k.h10 k.p30
  omega
theorem optV_isN {o : Option Nat} : decide (optV o = .non) = o.isNone := by cases o <;> rfl
theorem pair_drop {α β : Type} {F : α → β → Prop} {xs : List α} {l : List β} (h : Paired F xs l) : ∀ n, Paired F (xs.drop n) (l.drop n) := by
  induction h with
  | nil =>
    intro n
    rw [List.drop_nil, List.drop_nil]
    exact .nil
  | cons r t ih =>
    intro n
    cases n with
    | zero => exact .cons r t
    | succ n => exact ih n
theorem nodup_bound : ∀ (n : Nat) (l : List Nat), l.Nodup → (∀ x ∈ l, x < n) → l.length ≤ n
  | 0, [], _, _ => Nat.le_refl _
  | 0, x :: l, _, h => absurd (h x List.mem_cons_self) (Nat.not_lt_zero _)
  | n + 1, l, nd, h => by
    by_cases c : n ∈ l
    · have h1 : (l.erase n).length ≤ n := nodup_bound n (l.erase n) (nd.erase n) fun x hx => by
        have h2 := (List.Nodup.mem_erase_iff nd).mp hx
        have h3 := h x h2.2
        have h4 : x ≠ n := h2.1
        omega
      have h2 := List.length_erase_of_mem c
      omega
    · have h1 : l.length ≤ n := nodup_bound n l nd fun x hx => by
        have h3 := h x hx
        have h4 : x ≠ n := fun e => c (e ▸ hx)
        omega
      omega
/-- stops at different places are few -/
theorem places_bound {p h : Nat} {l : List (Nat × Nat)} (hp : 0 < p) (hh : ∀ s ∈ l, s.1 < h) (nd : (l.map (plc p)).Nodup) : l.length ≤ h * p := by
  have e : (l.map fun s => s.1 * p + s.2 % p).length = l.length := List.length_map _
  rw [← e]
  refine nodup_bound (h * p) _ ?_ ?_
  · have e2 : (l.map fun s => s.1 * p + s.2 % p) = (l.map (plc p)).map fun s => s.1 * p + s.2 := by
      rw [List.map_map]
      rfl
    rw [e2]
    have lt : ∀ s ∈ l.map (plc p), s.2 < p := fun s hs => by
      obtain ⟨t, _, rfl⟩ := List.mem_map.mp hs
      exact Nat.mod_lt _ hp
    generalize l.map (plc p) = ps at nd lt
    clear e e2 hh
    induction ps with
    | nil => exact List.nodup_nil
    | cons s r ih =>
      rw [List.nodup_cons] at nd
      rw [List.map_cons, List.nodup_cons]
      refine ⟨fun hm => ?_, ih nd.2 fun t ht => lt t (List.mem_cons_of_mem _ ht)⟩
      obtain ⟨t, ht, et⟩ := List.mem_map.mp hm
      have l1 := lt s List.mem_cons_self
      have l2 := lt t (List.mem_cons_of_mem _ ht)
      have q1 : t.1 = s.1 := by
        have a1 : (t.1 * p + t.2) / p = (s.1 * p + s.2) / p := by rw [et]
        rw [Nat.mul_comm t.1, Nat.mul_comm s.1, Nat.mul_add_div hp, Nat.mul_add_div hp, Nat.div_eq_of_lt l1, Nat.div_eq_of_lt l2] at a1
        omega
      have q2 : t.2 = s.2 := by
        rw [q1] at et
        omega
      exact nd.1 (by rw [show s = t from Prod.ext q1.symm q2.symm]; exact ht)
  · intro x hx
    obtain ⟨s, hs, rfl⟩ := List.mem_map.mp hx
    have h1 := hh s hs
    have h2 : s.2 % p < p := Nat.mod_lt _ hp
    calc s.1 * p + s.2 % p < s.1 * p + p := by omega
      _ = (s.1 + 1) * p := by rw [Nat.add_mul, Nat.one_mul]
      _ ≤ h * p := Nat.mul_le_mul_right _ h1
/-- how a way goes on behind its i-th stop -/
theorem way_next {p : Nat} {os : List Od} {n i : Nat} {st c : Nat × Nat} (hc : (way p os n st)[i]? = some c) (hi : i + 1 < n) : (way p os n st).drop (i + 1) = rest p os (n - (i + 1)) (hop p os c) := by
  have h := way_drop hc
  have e : n - i = (n - (i + 1)) + 1 := by omega
  rw [e, show way p os (n - (i + 1) + 1) c = rest p os (n - (i + 1) + 1) (some c) from rfl, rest_succ] at h
  have := congrArg (List.drop 1) h
  rw [List.drop_drop] at this
  exact this
/-- destination's answer -/
def destOf (res : List (Nat × Nat) × Option Nat) : Option (Nat × Nat) := match res.2 with
  | some _ => none
  | none => res.1.getLast?
def OptStop (H' : Hp) (v : V) : Option (Nat × Nat) → Prop
  | none => v = .non
  | some s => StopAt H' v s
/-! ### where a letter is: plain mathematics -/
/-- the i-th stop of a letter's way -/
def stp (p : Nat) (os : List Od) : Nat → Nat × Nat → Option (Nat × Nat)
  | 0, st => some st
  | n + 1, st => (stp p os n st).bind (hop p os)
theorem way_get {p : Nat} {os : List Od} {n : Nat} {st : Nat × Nat} : ∀ {i : Nat}, i < n → (way p os n st)[i]? = stp p os i st
  | 0, h => by
    obtain ⟨n, rfl⟩ : ∃ m, n = m + 1 := ⟨n - 1, by omega⟩
    rw [show way p os (n + 1) st = rest p os (n + 1) (some st) from rfl, rest_succ]
    rfl
  | i + 1, h => by
    have ih := way_get (p := p) (os := os) (n := n) (st := st) (i := i) (by omega)
    show _ = (stp p os i st).bind (hop p os)
    cases q : (way p os n st)[i]? with
    | none =>
      rw [← ih, q]
      rw [List.getElem?_eq_none_iff] at q
      exact List.getElem?_eq_none_iff.mpr (by omega)
    | some c =>
      rw [← ih, q]
      have e := way_next q h
      have e2 := congrArg (fun l => l[0]?) e
      simp only [List.getElem?_drop, Nat.add_zero] at e2
      rw [e2]
      obtain ⟨k, hk⟩ : ∃ k, n - (i + 1) = k + 1 := ⟨n - (i + 1) - 1, by omega⟩
      rw [hk]
      show (rest p os (k + 1) (hop p os c))[0]? = hop p os c
      cases hop p os c with
      | none => rfl
      | some s =>
        rw [rest_succ]
        rfl
theorem stp_add {p : Nat} {os : List Od} {i : Nat} {st : Nat × Nat} : ∀ {j : Nat}, stp p os (i + j) st = (stp p os i st).bind (stp p os j)
  | 0 => by
    show stp p os i st = _
    cases stp p os i st <;> rfl
  | j + 1 => by
    show (stp p os (i + j) st).bind (hop p os) = _
    rw [stp_add]
    cases stp p os i st <;> rfl
theorem hop_more {p h : Nat} {os : List Od} {c s : Nat × Nat} (k : NetOk p h os) (e : hop p os c = some s) : c.2 < s.2 := by
  unfold hop at e
  cases q : idx p os c.1 (c.2 : Int) with
  | none =>
    rw [q] at e
    cases e
  | some j =>
    simp only [q] at e
    have hj := idx_lt q
    rw [List.getElem?_eq_getElem hj] at e
    rw [← Option.some.inj e]
    have := (k.ok _ (List.getElem_mem hj)).e1
    show c.2 < c.2 + _
    omega
theorem stp_more {p h : Nat} {os : List Od} {i : Nat} {st a : Nat × Nat} (ok : NetOk p h os) (ha : stp p os i st = some a) : ∀ {k : Nat}, ∀ {b}, stp p os (i + (k + 1)) st = some b → a.2 < b.2
  | 0, b, hb => by
    have e : (stp p os i st).bind (hop p os) = some b := hb
    rw [ha] at e
    exact hop_more ok e
  | k + 1, b, hb => by
    have e : (stp p os (i + (k + 1)) st).bind (hop p os) = some b := hb
    cases q : stp p os (i + (k + 1)) st with
    | none =>
      rw [q] at e
      cases e
    | some c =>
      rw [q] at e
      have h1 := stp_more ok ha (k := k) q
      have h2 := hop_more ok e
      omega
/-- the letter's last stop up to the day x: it is c, the j-th -/
def LastAt (p : Nat) (os : List Od) (st : Nat × Nat) (x : Nat) (c : Nat × Nat) (j : Nat) : Prop :=
  stp p os j st = some c ∧ c.2 ≤ x ∧ ∀ s, hop p os c = some s → x < s.2
theorem LastAt.uniq {p h : Nat} {os : List Od} {st c c' : Nat × Nat} {x j j' : Nat} (ok : NetOk p h os) (a : LastAt p os st x c j) (b : LastAt p os st x c' j') : c = c' ∧ j = j' := by
  obtain ⟨a1, a2, a3⟩ := a
  obtain ⟨b1, b2, b3⟩ := b
  have key : ∀ {c c' : Nat × Nat} {j j' : Nat}, stp p os j st = some c → (∀ s, hop p os c = some s → x < s.2) → stp p os j' st = some c' → c'.2 ≤ x → j < j' → False := by
    intro c c' j j' h1 h2 h3 h4 lt
    obtain ⟨k, rfl⟩ : ∃ k, j' = (j + 1) + k := ⟨j' - (j + 1), by omega⟩
    have e0 : stp p os (j + 1) st = hop p os c := by
      show (stp p os j st).bind (hop p os) = _
      rw [h1]
      rfl
    cases q : hop p os c with
    | none =>
      rw [stp_add, e0, q] at h3
      cases h3
    | some s =>
      have h5 := h2 s q
      cases k with
      | zero =>
        rw [Nat.add_zero, e0, q] at h3
        rw [← Option.some.inj h3] at h4
        omega
      | succ k =>
        have h6 := stp_more ok (e0.trans q) h3
        omega
  by_cases e : j = j'
  · subst e
    exact ⟨Option.some.inj (a1.symm.trans b1), rfl⟩
  · rcases Nat.lt_or_gt_of_ne e with lt | lt
    · exact (key a1 a3 b1 b2 lt).elim
    · exact (key b1 b3 a1 a2 lt).elim
/-- later by D days, a multiple of the period -/
def shf (D : Nat) (s : Nat × Nat) : Nat × Nat := (s.1, s.2 + D)
theorem hop_shf {p : Nat} {os : List Od} {k : Nat} (s : Nat × Nat) : hop p os (shf (p * k) s) = (hop p os s).map (shf (p * k)) := by
  unfold hop shf
  show (match idx p os s.1 ((s.2 + p * k : Nat) : Int) with | none => none | some j => (os[j]?).map fun o : Od => (o.t, s.2 + p * k + o.e)) = _
  rw [idx_later]
  cases idx p os s.1 (s.2 : Int) with
  | none => rfl
  | some j =>
    show (os[j]?).map _ = ((os[j]?).map _).map _
    rw [Option.map_map]
    congr 1
    funext o
    show (o.t, s.2 + p * k + o.e) = (o.t, s.2 + o.e + p * k)
    rw [show s.2 + p * k + o.e = s.2 + o.e + p * k by omega]
theorem stp_shf {p : Nat} {os : List Od} {k : Nat} (s : Nat × Nat) : ∀ j, stp p os j (shf (p * k) s) = (stp p os j s).map (shf (p * k))
  | 0 => rfl
  | j + 1 => by
    show (stp p os j (shf (p * k) s)).bind (hop p os) = ((stp p os j s).bind (hop p os)).map _
    rw [stp_shf s j]
    cases stp p os j s with
    | none => rfl
    | some c => exact hop_shf c
/-- round after round -/
theorem stp_round {p : Nat} {os : List Od} {b N D k0 : Nat} {st t : Nat × Nat} (hD : D = p * k0) (h1 : stp p os b st = some t) (h2 : stp p os (b + N) st = some (shf D t)) : ∀ (r i : Nat), stp p os (b + i + N * r) st = (stp p os (b + i) st).map (shf (D * r))
  | 0, i => by
    rw [Nat.mul_zero, Nat.mul_zero, Nat.add_zero]
    cases stp p os (b + i) st <;> rfl
  | r + 1, i => by
    have one : ∀ j, stp p os (b + N + j) st = (stp p os (b + j) st).map (shf D) := by
      intro j
      rw [stp_add, h2]
      show stp p os j (shf D t) = _
      rw [stp_add (i := b), h1, hD, stp_shf]
      rfl
    have e : b + i + N * (r + 1) = b + N + (i + N * r) := by
      rw [Nat.mul_add, Nat.mul_one]
      omega
    rw [e, one, show b + (i + N * r) = b + i + N * r by omega, stp_round hD h1 h2 r i, Option.map_map]
    congr 1
    funext s
    show (s.1, s.2 + D * r + D) = (s.1, s.2 + D * (r + 1))
    rw [Nat.mul_add, Nat.mul_one, Nat.add_assoc]
/-- what fol says -/
theorem fol_spec {p : Nat} : ∀ (r d : List (Nat × Nat)), (d.map (plc p)).Nodup →
    (fol p d r = (d ++ r, none) ∧ ((d ++ r).map (plc p)).Nodup) ∨ ∃ m s b t r', d ++ r = m ++ s :: r' ∧ fol p d r = (m ++ [s], some b) ∧ m[b]? = some t ∧ plc p t = plc p s ∧ (m.map (plc p)).Nodup
  | [], d, nd => .inl ⟨by rw [List.append_nil]; rfl, by rw [List.append_nil]; exact nd⟩
  | s :: r, d, nd => by
    unfold fol
    cases q : d.findIdx? (fun t => decide (plc p t = plc p s)) with
    | some b =>
      obtain ⟨hb, hb2, _⟩ := List.findIdx?_eq_some_iff_getElem.mp q
      exact .inr ⟨d, s, b, d[b], r, rfl, rfl, List.getElem?_eq_getElem hb, of_decide_eq_true hb2, nd⟩
    | none =>
      have nd2 : ((d ++ [s]).map (plc p)).Nodup := by
        rw [List.map_append, List.nodup_append]
        refine ⟨nd, by simp, fun x hx y hy => ?_⟩
        rw [List.map_cons, List.map_nil, List.mem_singleton] at hy
        rw [hy]
        intro e
        obtain ⟨t, ht, et⟩ := List.mem_map.mp hx
        have := List.findIdx?_eq_none_iff.mp q t ht
        exact Bool.false_ne_true (this.symm.trans (decide_eq_true (et.trans e)))
      have ih := fol_spec r (d ++ [s]) nd2
      rw [List.append_assoc] at ih
      exact ih
/-- a letter that is delivered, or chases: by its stops -/
theorem folR_cases {p h : Nat} {os : List Od} {st : Nat × Nat} (ok : NetOk p h os) (hh : st.1 < h) :
    (∃ l, folR p h os st = (l, none) ∧ l ≠ [] ∧ (∀ i, l[i]? = stp p os i st) ∧ (l.map (plc p)).Nodup) ∨
    (∃ m s b t k, folR p h os st = (m ++ [s], some b) ∧ (∀ i, i ≤ m.length → (m ++ [s])[i]? = stp p os i st) ∧ m[b]? = some t ∧ s = shf (p * k) t ∧ 0 < p * k ∧ (m.map (plc p)).Nodup) := by
  have hp : 0 < p := ok.p1
  have hlen := way_len p os (h * p + 1) st
  have hget : ∀ {i}, i < h * p + 1 → (way p os (h * p + 1) st)[i]? = stp p os i st := fun hi => way_get hi
  have hho := way_house (n := h * p + 1) ok hh
  have hne : way p os (h * p + 1) st ≠ [] := by
    rw [show way p os (h * p + 1) st = rest p os (h * p + 1) (some st) from rfl, rest_succ]
    exact List.cons_ne_nil _ _
  unfold folR
  generalize way p os (h * p + 1) st = L at hlen hget hho hne
  rcases fol_spec (p := p) L [] List.nodup_nil with ⟨e, nd⟩ | ⟨m, s, b, t, r', e1, e2, e3, e4, nd⟩
  · rw [List.nil_append] at e nd
    refine .inl ⟨L, e, hne, fun i => ?_, nd⟩
    have hb := places_bound hp hho nd
    by_cases c : i < h * p + 1
    · exact hget c
    · have e1 : stp p os L.length st = none := by
        rw [← hget (by omega)]
        exact List.getElem?_eq_none_iff.mpr (Nat.le_refl _)
      have e2 : i = L.length + (i - L.length) := by omega
      rw [e2, stp_add, e1]
      exact List.getElem?_eq_none_iff.mpr (by omega)
  · rw [List.nil_append] at e1
    have hml : m.length < L.length := by
      rw [e1, List.length_append, List.length_cons]
      omega
    have hg : ∀ i, i ≤ m.length → (m ++ [s])[i]? = stp p os i st := fun i hi => by
      rw [← hget (by omega), e1]
      by_cases c : i < m.length
      · rw [List.getElem?_append_left c, List.getElem?_append_left c]
      · obtain rfl : i = m.length := by omega
        rw [List.getElem?_append_right (Nat.le_refl _), List.getElem?_append_right (Nat.le_refl _), Nat.sub_self]
        rfl
    have hbl : b < m.length := (List.getElem?_eq_some_iff.mp e3).1
    have g1 : stp p os b st = some t := by
      rw [← hg b (by omega), List.getElem?_append_left hbl]
      exact e3
    have g2 : stp p os (b + (m.length - b - 1 + 1)) st = some s := by
      rw [show b + (m.length - b - 1 + 1) = m.length by omega, ← hg _ (Nat.le_refl _), List.getElem?_append_right (Nat.le_refl _), Nat.sub_self]
      rfl
    have lt := stp_more (b := s) ok g1 g2
    have h1 : t.1 = s.1 := (Prod.mk.inj e4).1
    have h2 : t.2 % p = s.2 % p := (Prod.mk.inj e4).2
    have hk : s.2 = t.2 + p * (s.2 / p - t.2 / p) := by
      have a1 := Nat.div_add_mod s.2 p
      have a2 := Nat.div_add_mod t.2 p
      have a3 : t.2 / p ≤ s.2 / p := Nat.div_le_div_right (Nat.le_of_lt lt)
      rw [Nat.mul_sub]
      have a4 : p * (t.2 / p) ≤ p * (s.2 / p) := Nat.mul_le_mul_left _ a3
      omega
    refine .inr ⟨m, s, b, t, s.2 / p - t.2 / p, e2, hg, e3, ?_, by omega, nd⟩
    exact Prod.ext h1.symm hk
/-- of an increasing list, those up to a day are its beginning -/
theorem upto {sk x : Nat} : ∀ {l : List (Nat × Nat)}, l.Pairwise (fun a b => a.2 < b.2) → l.filter (fun s => decide (s.2 + sk ≤ x)) = l.take (l.filter fun s => decide (s.2 + sk ≤ x)).length ∧ ∀ s ∈ l.drop (l.filter fun s => decide (s.2 + sk ≤ x)).length, x < s.2 + sk
  | [], _ => ⟨rfl, fun s h => by cases h⟩
  | s :: r, hp => by
    rw [List.pairwise_cons] at hp
    obtain ⟨h1, h2⟩ := upto (sk := sk) (x := x) hp.2
    by_cases c : s.2 + sk ≤ x
    · have e : (s :: r).filter (fun s => decide (s.2 + sk ≤ x)) = s :: r.filter (fun s => decide (s.2 + sk ≤ x)) := List.filter_cons_of_pos (p := fun s : Nat × Nat => decide (s.2 + sk ≤ x)) (decide_eq_true c)
      rw [e, List.length_cons, List.take_succ_cons, List.drop_succ_cons]
      refine ⟨?_, h2⟩
      rw [← h1]
    · have hn : ∀ t ∈ s :: r, x < t.2 + sk := fun t ht => by
        rcases List.mem_cons.mp ht with e | e
        · rw [e]; omega
        · have := hp.1 t e
          omega
      have e0 : (s :: r).filter (fun s => decide (s.2 + sk ≤ x)) = [] := List.filter_eq_nil_iff.mpr fun t ht z => by
        have := hn t ht
        have := of_decide_eq_true z
        omega
      rw [e0]
      exact ⟨rfl, fun t ht => hn t ht⟩
theorem stp_pair {p h : Nat} {os : List Od} {st : Nat × Nat} {l : List (Nat × Nat)} (ok : NetOk p h os) (hl : ∀ i, i < l.length → l[i]? = stp p os i st) : l.Pairwise fun a b => a.2 < b.2 := by
  rw [List.pairwise_iff_getElem]
  intro i j hi hj lt
  have e1 := hl i hi
  have e2 := hl j hj
  rw [List.getElem?_eq_getElem hi] at e1
  rw [List.getElem?_eq_getElem hj] at e2
  obtain ⟨k, rfl⟩ : ∃ k, j = i + (k + 1) := ⟨j - i - 1, by omega⟩
  exact stp_more (b := l[i + (k + 1)]) ok e1.symm e2.symm
def cnt (l : List (Nat × Nat)) (x : Nat) : Nat := (l.filter fun s => decide (s.2 ≤ x)).length
/-- days and hops that a chasing letter has behind it in whole rounds, up to the day x -/
def skips (res : List (Nat × Nat) × Option Nat) (x : Nat) : Nat × Nat := match res.2 with
  | none => (0, 0)
  | some b => match res.1[b]?, res.1.getLast? with
    | some t, some s => if t.2 ≤ x then ((x - t.2) / (s.2 - t.2) * (s.2 - t.2), (x - t.2) / (s.2 - t.2) * (res.1.length - 1 - b)) else (0, 0)
    | _, _ => (0, 0)
def cntS (l : List (Nat × Nat)) (sk x : Nat) : Nat := (l.filter fun s => decide (s.2 + sk ≤ x)).length
theorem cntS_spec {p h : Nat} {os : List Od} {st : Nat × Nat} {l : List (Nat × Nat)} {sk x : Nat} (ok : NetOk p h os) (hl : ∀ i, i < l.length → l[i]? = stp p os i st) :
    cntS l sk x ≤ l.length ∧ (∀ i s, i < cntS l sk x → l[i]? = some s → s.2 + sk ≤ x) ∧ ∀ i s, cntS l sk x ≤ i → l[i]? = some s → x < s.2 + sk := by
  obtain ⟨h1, h2⟩ := upto (sk := sk) (x := x) (stp_pair ok hl)
  have hc : cntS l sk x ≤ l.length := List.length_filter_le _ _
  refine ⟨hc, fun i s hi e => ?_, fun i s hi e => ?_⟩
  · have m : s ∈ l.filter fun s => decide (s.2 + sk ≤ x) := by
      rw [h1]
      refine List.mem_of_getElem? (i := i) ?_
      show (l.take (cntS l sk x))[i]? = some s
      rw [List.getElem?_take_of_lt hi]
      exact e
    exact of_decide_eq_true (List.mem_filter.mp m).2
  · refine h2 s (List.mem_of_getElem? (i := i - cntS l sk x) ?_)
    show (l.drop (cntS l sk x))[i - cntS l sk x]? = some s
    rw [List.getElem?_drop, show cntS l sk x + (i - cntS l sk x) = i by omega]
    exact e
/-- the last stop, as it is computed from what follow says -/
theorem last_of {p h : Nat} {os : List Od} {st : Nat × Nat} {x : Nat} (ok : NetOk p h os) (hh : st.1 < h) (hx : st.2 ≤ x) :
    ∃ c s, cntS (folR p h os st).1 (skips (folR p h os st) x).1 x = c + 1 ∧ (folR p h os st).1[c]? = some s ∧ LastAt p os st x (shf (skips (folR p h os st) x).1 s) (c + (skips (folR p h os st) x).2) ∧
      ((folR p h os st).2.isSome = true → c + 1 < (folR p h os st).1.length) := by
  rcases folR_cases ok hh with ⟨l, e, hne, hl, _⟩ | ⟨m, s, b, t, k, e, hl, hb, hs, hk, _⟩
  · rw [e]
    show ∃ c s, cntS l 0 x = c + 1 ∧ l[c]? = some s ∧ LastAt p os st x (shf 0 s) (c + 0) ∧ (Option.isSome (none : Option Nat) = true → c + 1 < l.length)
    obtain ⟨c1, c2, c3⟩ := cntS_spec (sk := 0) (x := x) ok fun i _ => hl i
    have h0 : l[0]? = some st := hl 0
    have pos : 0 < cntS l 0 x := by
      refine Nat.pos_of_ne_zero fun z => ?_
      have := c3 0 st (by omega) h0
      omega
    obtain ⟨c, hc⟩ : ∃ c, cntS l 0 x = c + 1 := ⟨cntS l 0 x - 1, by omega⟩
    have hcl : c < l.length := by omega
    have hc' := List.getElem?_eq_getElem hcl
    refine ⟨c, l[c], hc, hc', ⟨?_, c2 c _ (by omega) hc', fun s hs => ?_⟩, fun z => by cases z⟩
    · rw [Nat.add_zero, ← hl c]
      exact hc'
    · have e1 : l[c + 1]? = some s := by
        rw [hl (c + 1)]
        show (stp p os c st).bind (hop p os) = _
        rw [← hl c, hc']
        exact hs
      have := c3 (c + 1) s (by omega) e1
      omega
  · rw [e]
    have hbl : b < m.length := (List.getElem?_eq_some_iff.mp hb).1
    have hl' : ∀ i, i < (m ++ [s]).length → (m ++ [s])[i]? = stp p os i st := fun i hi => hl i (by rw [List.length_append, List.length_singleton] at hi; omega)
    have g1 : (m ++ [s])[b]? = some t := by rw [List.getElem?_append_left hbl]; exact hb
    have g2 : (m ++ [s])[m.length]? = some s := by
      rw [List.getElem?_append_right (Nat.le_refl _), Nat.sub_self]
      rfl
    have w1 : stp p os b st = some t := by rw [← hl b (by omega)]; exact g1
    have w2 : stp p os (b + (m.length - b)) st = some (shf (p * k) t) := by
      rw [show b + (m.length - b) = m.length by omega, ← hl _ (Nat.le_refl _), ← hs]
      exact g2
    have hD : s.2 - t.2 = p * k := by
      rw [hs]
      show t.2 + p * k - t.2 = _
      omega
    have esk : skips (m ++ [s], some b) x = if t.2 ≤ x then ((x - t.2) / (p * k) * (p * k), (x - t.2) / (p * k) * (m.length - b)) else (0, 0) := by
      unfold skips
      simp only [g1, List.getLast?_concat, hD]
      rw [List.length_append, List.length_singleton, Nat.add_sub_cancel]
    rw [esk]
    by_cases c : t.2 ≤ x
    · rw [if_pos c]
      generalize hr : (x - t.2) / (p * k) = r
      have q1 := Nat.div_add_mod (x - t.2) (p * k)
      have q2 := Nat.mod_lt (x - t.2) hk
      rw [hr] at q1
      have q3 : p * k * r = r * (p * k) := Nat.mul_comm _ _
      show ∃ c z, cntS (m ++ [s]) (r * (p * k)) x = c + 1 ∧ (m ++ [s])[c]? = some z ∧ LastAt p os st x (shf (r * (p * k)) z) (c + r * (m.length - b)) ∧ (Option.isSome (some b) = true → c + 1 < (m ++ [s]).length)
      obtain ⟨c1, c2, c3⟩ := cntS_spec (sk := r * (p * k)) (x := x) ok hl'
      have lo : b < cntS (m ++ [s]) (r * (p * k)) x := by
        refine Nat.lt_of_not_le fun z => ?_
        have := c3 b t z g1
        omega
      have hi : cntS (m ++ [s]) (r * (p * k)) x ≤ m.length := by
        refine Nat.le_of_not_lt fun z => ?_
        have := c2 m.length s z g2
        have e0 : s.2 = t.2 + p * k := by rw [hs]; rfl
        omega
      obtain ⟨c, hc⟩ : ∃ c, cntS (m ++ [s]) (r * (p * k)) x = c + 1 := ⟨cntS (m ++ [s]) (r * (p * k)) x - 1, by omega⟩
      have hcl : c < (m ++ [s]).length := by rw [List.length_append, List.length_singleton]; omega
      have hc' := List.getElem?_eq_getElem hcl
      have round := stp_round (D := p * k) (k0 := k) rfl w1 w2 r
      have sc : stp p os (c + r * (m.length - b)) st = some (shf (r * (p * k)) ((m ++ [s])[c])) := by
        have e1 := round (c - b)
        rw [show b + (c - b) = c by omega, Nat.mul_comm (m.length - b) r, ← hl c (by omega), hc', Nat.mul_comm (p * k) r] at e1
        exact e1
      refine ⟨c, (m ++ [s])[c], hc, hc', ⟨sc, c2 c _ (by omega) hc', fun z hz => ?_⟩, fun _ => by rw [List.length_append, List.length_singleton]; omega⟩
      have hcl2 : c + 1 < (m ++ [s]).length := by rw [List.length_append, List.length_singleton]; omega
      have hc2' := List.getElem?_eq_getElem hcl2
      have e2 := round (c + 1 - b)
      rw [show b + (c + 1 - b) = c + 1 by omega, Nat.mul_comm (m.length - b) r, ← hl (c + 1) (by omega), hc2', Nat.mul_comm (p * k) r] at e2
      have e3 : stp p os (c + 1 + r * (m.length - b)) st = some z := by
        rw [show c + 1 + r * (m.length - b) = (c + r * (m.length - b)) + 1 by omega]
        show (stp p os (c + r * (m.length - b)) st).bind (hop p os) = _
        rw [sc]
        exact hz
      rw [e3] at e2
      rw [Option.some.inj e2]
      exact c3 (c + 1) _ (by omega) hc2'
    · rw [if_neg c]
      show ∃ c z, cntS (m ++ [s]) 0 x = c + 1 ∧ (m ++ [s])[c]? = some z ∧ LastAt p os st x (shf 0 z) (c + 0) ∧ (Option.isSome (some b) = true → c + 1 < (m ++ [s]).length)
      obtain ⟨c1, c2, c3⟩ := cntS_spec (sk := 0) (x := x) ok hl'
      have h0 : (m ++ [s])[0]? = some st := hl 0 (Nat.zero_le _)
      have pos : 0 < cntS (m ++ [s]) 0 x := by
        refine Nat.pos_of_ne_zero fun z => ?_
        have := c3 0 st (by omega) h0
        omega
      have hi : cntS (m ++ [s]) 0 x ≤ b := by
        refine Nat.le_of_not_lt fun z => ?_
        have := c2 b t z g1
        omega
      obtain ⟨c, hc⟩ : ∃ c, cntS (m ++ [s]) 0 x = c + 1 := ⟨cntS (m ++ [s]) 0 x - 1, by omega⟩
      have hcl : c < (m ++ [s]).length := by rw [List.length_append, List.length_singleton]; omega
      have hc' := List.getElem?_eq_getElem hcl
      have sc : stp p os c st = some ((m ++ [s])[c]) := by
        rw [← hl c (by omega)]
        exact hc'
      refine ⟨c, (m ++ [s])[c], hc, hc', ⟨sc, c2 c _ (by omega) hc', fun z hz => ?_⟩, fun _ => by rw [List.length_append, List.length_singleton]; omega⟩
      have e3 : (m ++ [s])[c + 1]? = some z := by
        rw [hl (c + 1) (by omega)]
        show (stp p os c st).bind (hop p os) = _
        rw [sc]
        exact hz
      have := c3 (c + 1) z (by omega) e3
      omega
/-! ### stops as data -/
theorem fol_first {p : Nat} {s : Nat × Nat} {r : List (Nat × Nat)} : fol p [] (s :: r) = fol p [s] r := by simp [fol]
def plD (s : Nat × Nat) : PyData := .tuple [.int s.1, .int s.2]
theorem plD_shaped (s : Nat × Nat) : PySem.SeqAt.shaped (plD s) = true := by
  show ((plD s).canLay0 && decide ((plD s).depth ≤ 64)) = true
  rw [Bool.and_eq_true]
  refine ⟨by simp [plD, PyData.canLay0, PyData.canLayAll0], decide_eq_true ?_⟩
  have e : (plD s).depth = 1 := by simp [plD, PyData.depth, PyData.depthAll]
  omega
theorem plDs_lay : ∀ l : List (Nat × Nat), PyData.canLayAll0 (l.map plD) = true
  | [] => by simp [PyData.canLayAll0]
  | s :: l => by
    have h : (plD s).canLay0 = true := by simp [plD, PyData.canLay0, PyData.canLayAll0]
    simp [PyData.canLayAll0, h, plDs_lay l]
theorem plDs_depth : ∀ l : List (Nat × Nat), PyData.depthAll (l.map plD) ≤ 1
  | [] => by simp [PyData.depthAll]
  | s :: l => by
    have h1 := plDs_depth l
    have h2 : (plD s).depth = 1 := by simp [plD, PyData.depth, PyData.depthAll]
    simp only [List.map_cons, PyData.depthAll]
    omega
theorem plDs_shaped (l : List (Nat × Nat)) : PySem.SeqAt.shaped (.list (l.map plD)) = true := by
  have h1 := plDs_depth l
  show (PyData.canLay0 (.list (l.map plD)) && decide (PyData.depth (.list (l.map plD)) ≤ 64)) = true
  rw [Bool.and_eq_true]
  refine ⟨by simp only [PyData.canLay0]; exact plDs_lay l, decide_eq_true ?_⟩
  simp only [PyData.depth]
  omega
theorem plD_eqv (s t : Nat × Nat) : PyData.eqv (plD s) (plD t) = decide (s = t) := by
  obtain ⟨a, b⟩ := s
  obtain ⟨c, d⟩ := t
  have e : PyData.eqv (plD (a, b)) (plD (c, d)) = (((a : Int) == (c : Int)) && (((b : Int) == (d : Int)) && true)) := by simp only [plD, PyData.eqv, PyData.eqvAll]
  rw [e]
  by_cases h : ((a, b) : Nat × Nat) = (c, d)
  · cases h
    simp
  · rw [decide_eq_false h]
    by_cases h1 : a = c
    · have h2 : ¬ (b : Int) = (d : Int) := fun z => h (by rw [h1, show b = d by omega])
      have e2 : ((b : Int) == (d : Int)) = false := beq_eq_false_iff_ne.mpr h2
      rw [e2, Bool.false_and, Bool.and_false]
    · have e2 : ((a : Int) == (c : Int)) = false := beq_eq_false_iff_ne.mpr (by omega)
      rw [e2, Bool.false_and]
theorem stop_dp {K : PySem.W.Frag} {H : Hp} {v : V} {s : Nat × Nat} (h : StopAt H v s) : Dp K H v (plD s) := by
  obtain ⟨u, rfl, hu⟩ := h
  exact .tup (SqT.of hu) (.cons (.int _) (.cons (.int _) .nil))
theorem stops_dp {K : PySem.W.Frag} {H : Hp} {vs : List V} {l : List (Nat × Nat)} (h : Paired (StopAt H) vs l) : DpAll K H vs (l.map plD) := by
  induction h with
  | nil => exact .nil
  | cons r _ ih => exact .cons (stop_dp r) ih
/-! ### days of a house: plain -/
/-- the three lists of day_sets: by the days below n -/
def arr (p h : Nat) (os : List Od) (hs n : Nat) : List Nat := (List.range n).filter fun d => (folR p h os (hs, d)).2.isNone
def chs (p h : Nat) (os : List Od) (hs n : Nat) : List Nat := (List.range n).filter fun d => (folR p h os (hs, d)).2.isSome
def ret (p h : Nat) (os : List Od) (hs n : Nat) : List Nat := (List.range n).filter fun d => ((folR p h os (hs, d)).1.drop 1).any fun s => decide (s.1 = hs)
theorem filter_nints {n : Nat} {f : Nat → Bool} (h : f n = true) : nints ((List.range (n + 1)).filter f) = nints ((List.range n).filter f) ++ [.int (n : Nat)] := by
  rw [filter_range_succ', if_pos h]
  unfold nints
  rw [List.map_append]
  rfl
theorem filter_nints' {n : Nat} {f : Nat → Bool} (h : f n = false) : nints ((List.range (n + 1)).filter f) = nints ((List.range n).filter f) := by
  rw [filter_range_succ', if_neg (by rw [h]; exact Bool.false_ne_true), List.append_nil]
theorem nints_small {n : Nat} {f : Nat → Bool} (h : n ≤ 30) : (nints ((List.range n).filter f)).length < sizeLine := by
  unfold nints
  rw [List.length_map]
  exact small1000 (Nat.le_trans (List.length_filter_le _ _) (by rw [List.length_range]; omega))
/-! ### equal data (nested lists and tuples of None, bools, ints, texts) -/
def Flat1 (v : V) : Prop := v = .non ∨ (∃ b, v = .bl b) ∨ (∃ i, v = .int i) ∨ ∃ s, v = .str s
def Eqv : Nat → Hp → V → V → Prop
  | 0, _, a, b => a = b ∧ Flat1 a
  | n + 1, H, a, b => (a = b ∧ Flat1 a) ∨ (∃ p q xs ys, a = .ref p ∧ b = .ref q ∧ H p = some (.tup xs) ∧ H q = some (.tup ys) ∧ xs.length ≤ 1000 ∧ Paired (Eqv n H) xs ys) ∨
      ∃ p q xs ys, a = .ref p ∧ b = .ref q ∧ H p = some (.lst xs) ∧ H q = some (.lst ys) ∧ xs.length ≤ 1000 ∧ Paired (Eqv n H) xs ys
theorem Eqv.flat {n : Nat} {H : Hp} {a b : V} (e : a = b) (f : Flat1 a) : Eqv n H a b := by
  cases n with
  | zero => exact ⟨e, f⟩
  | succ n => exact .inl ⟨e, f⟩
theorem Eqv.int {n : Nat} {H : Hp} {i : Int} : Eqv n H (.int i) (.int i) := Eqv.flat rfl (.inr (.inr (.inl ⟨i, rfl⟩)))
theorem Eqv.non {n : Nat} {H : Hp} : Eqv n H .non .non := Eqv.flat rfl (.inl rfl)
theorem Eqv.same : ∀ {n : Nat} {H H' : Hp} {a b : V}, Same H H' → Eqv n H a b → Eqv n H' a b
  | 0, _, _, _, _, _, h => h
  | n + 1, H, H', a, b, s, h => by
    rcases h with h | ⟨p, q, xs, ys, e1, e2, h1, h2, h3, h4⟩ | ⟨p, q, xs, ys, e1, e2, h1, h2, h3, h4⟩
    · exact .inl h
    · exact .inr (.inl ⟨p, q, xs, ys, e1, e2, s _ _ h1, s _ _ h2, h3, Paired.mapP h4 fun _ _ z => Eqv.same s z⟩)
    · exact .inr (.inr ⟨p, q, xs, ys, e1, e2, s _ _ h1, s _ _ h2, h3, Paired.mapP h4 fun _ _ z => Eqv.same s z⟩)
abbrev s_l_equal : Stmt := top 51
abbrev N_l_equal : List Str := ["_law_actual", "_law_expected", "_law_k"]
abbrev P_l_equal : List Str := ["_law_actual", "_law_expected"]
theorem sc_l_equal : FnScope N_l_equal P_l_equal (defScope s_l_equal) := ⟨rfl, rfl, rfl, by decide +kernel, rfl, by decide +kernel, by decide +kernel⟩
def spEqual (n : Nat) : Sp := fun vs H Q _ => ∃ (a b : V), vs = [a, b] ∧ Eqv n H a b ∧ ∀ H', Same H H' → Q (.bl true) H'
section
variable {P : Program} {w : World} {K : PySem.W.Frag} {mg : Str → Option Value} {base : Heap}
theorem bl_ne {x y : Bool} (e : x = y) : (!decide (V.bl x = V.bl y)) = false := by
  rw [decide_eq_true (by rw [e])]
  rfl
theorem ok_equal {f : Addr} {fd : FuncData} (F : Fun K "_law_equal" "_law_equal" s_l_equal f fd) (B : Blt mg) (gE : mg "_law_equal" = some (.ref f)) (bE : Binds K fd P_l_equal []) : ∀ n, FnOk P w K mg base CX0 (n + 1) f fd P_l_equal (spEqual n) := by
  intro n
  induction n with
  | zero =>
    refine F.ok sc_l_equal (fun vs H Q E h => ?_) (fun cdv A outer s H vs Q E hr h => ?_)
    · obtain ⟨a, b, rfl, _⟩ := h
      rfl
    · obtain ⟨a, b, rfl, ⟨rfl, hf⟩, q⟩ := h
      refine ⟨_, pss_cons (ps_if (pt_cmpR op_isN (pv 1) pe_non (nomark _)) (pss_one (ps_ret (pe_cmpR op_isN (pv 0) pe_non (nomark _)))) pss_nil)
        (pss_cons (ps_if (pt_val (pe_callB call_isi (by rfl) B.isi PyProof.Rows.boot_isinstance (pa_cons (pv 1) (pa_cons (pe_bltn (v := .ty "bool") (by rfl) B.bool (by decide +kernel) rfl) pa_nil))))
          (pss_one (ps_ret (pe_and (pe_callB call_isi (by rfl) B.isi PyProof.Rows.boot_isinstance (pa_cons (pv 0) (pa_cons (pe_bltn (v := .ty "bool") (by rfl) B.bool (by decide +kernel) rfl) pa_nil))) (pe_one (pe_cmpR op_eq (pv 0) (pv 1) (nomark _)))))) pss_nil)
        (pss_cons (ps_if (pt_val (pe_callB call_isi (by rfl) B.isi PyProof.Rows.boot_isinstance (pa_cons (pv 1) (pa_cons (pe_bltn (v := .ty "int") (by rfl) B.int (by decide +kernel) rfl) pa_nil))))
          (pss_one (ps_ret (pe_and (pe_callB call_isi (by rfl) B.isi PyProof.Rows.boot_isinstance (pa_cons (pv 0) (pa_cons (pe_bltn (v := .ty "int") (by rfl) B.int (by decide +kernel) rfl) pa_nil)))
            (pe_and (pe_not (pe_callB call_isi (by rfl) B.isi PyProof.Rows.boot_isinstance (pa_cons (pv 0) (pa_cons (pe_bltn (v := .ty "bool") (by rfl) B.bool (by decide +kernel) rfl) pa_nil)))) (pe_one (pe_cmpR op_eq (pv 0) (pv 1) (nomark _))))))) pss_nil)
        (pss_cons (ps_if (pt_val (pe_callB call_isi (by rfl) B.isi PyProof.Rows.boot_isinstance (pa_cons (pv 1) (pa_cons (pe_bltn (v := .ty "str") (by rfl) B.str (by decide +kernel) rfl) pa_nil))))
          (pss_one (ps_ret (pe_and (pe_callB call_isi (by rfl) B.isi PyProof.Rows.boot_isinstance (pa_cons (pv 0) (pa_cons (pe_bltn (v := .ty "str") (by rfl) B.str (by decide +kernel) rfl) pa_nil))) (pe_one (pe_cmpR op_eq (pv 0) (pv 1) (nomark _)))))) pss_nil)
        (pss_cons ps_never (pss_cons ps_never (pss_cons ps_never (pss_one ps_never))))))), ?_⟩
      rcases hf with rfl | ⟨y, rfl⟩ | ⟨y, rfl⟩ | ⟨y, rfl⟩
      · refine ⟨_, rfl, rfl, _, rfl, iteT ⟨_, rfl, rfl, ?_⟩⟩
        exact q H (.refl H)
      · refine ⟨_, rfl, rfl, _, rfl, iteF ⟨_, rfl, _, _, _, _, true, rfl, .ty "bool", .base (.bl y), kit_ty (by decide +kernel), _, rfl, iteT ?_⟩⟩
        refine ⟨_, rfl, _, _, _, _, true, rfl, .ty "bool", .base (.bl y), kit_ty (by decide +kernel), _, rfl, iteT ⟨_, rfl, _, rfl, by cases y <;> rfl, ?_⟩⟩
        rw [decide_eq_true rfl]
        exact q H (.refl H)
      · refine ⟨_, rfl, rfl, _, rfl, iteF ⟨_, rfl, _, _, _, _, false, rfl, .ty "bool", .base (.int y), kit_ty (by decide +kernel), _, rfl, iteF ?_⟩⟩
        refine ⟨_, rfl, _, _, _, _, true, rfl, .ty "int", .base (.int y), kit_ty (by decide +kernel), _, rfl, iteT ?_⟩
        refine ⟨_, rfl, _, _, _, _, true, rfl, .ty "int", .base (.int y), kit_ty (by decide +kernel), _, rfl, iteT ?_⟩
        refine ⟨_, rfl, _, _, _, _, false, rfl, .ty "bool", .base (.int y), kit_ty (by decide +kernel), _, rfl, _, rfl, iteT ⟨_, rfl, _, rfl, rfl, ?_⟩⟩
        rw [decide_eq_true rfl]
        exact q H (.refl H)
      · refine ⟨_, rfl, rfl, _, rfl, iteF ⟨_, rfl, _, _, _, _, false, rfl, .ty "bool", .base (.str y), kit_ty (by decide +kernel), _, rfl, iteF ?_⟩⟩
        refine ⟨_, rfl, _, _, _, _, false, rfl, .ty "int", .base (.str y), kit_ty (by decide +kernel), _, rfl, iteF ?_⟩
        refine ⟨_, rfl, _, _, _, _, true, rfl, .ty "str", .base (.str y), kit_ty (by decide +kernel), _, rfl, iteT ?_⟩
        refine ⟨_, rfl, _, _, _, _, true, rfl, .ty "str", .base (.str y), kit_ty (by decide +kernel), _, rfl, iteT ⟨_, rfl, _, rfl, rfl, ?_⟩⟩
        rw [decide_eq_true rfl]
        exact q H (.refl H)
  | succ n ih =>
    refine F.ok sc_l_equal (fun vs H Q E h => ?_) (fun cdv A outer s H vs Q E hr h => ?_)
    · obtain ⟨a, b, rfl, _⟩ := h
      rfl
    · obtain ⟨a, b, rfl, he, q⟩ := h
      refine ⟨_, pss_cons (ps_if (pt_cmpR op_isN (pv 1) pe_non (nomark _)) (pss_one (ps_ret (pe_cmpR op_isN (pv 0) pe_non (nomark _)))) pss_nil)
        (pss_cons (ps_if (pt_val (pe_callB call_isi (by rfl) B.isi PyProof.Rows.boot_isinstance (pa_cons (pv 1) (pa_cons (pe_bltn (v := .ty "bool") (by rfl) B.bool (by decide +kernel) rfl) pa_nil))))
          (pss_one (ps_ret (pe_and (pe_callB call_isi (by rfl) B.isi PyProof.Rows.boot_isinstance (pa_cons (pv 0) (pa_cons (pe_bltn (v := .ty "bool") (by rfl) B.bool (by decide +kernel) rfl) pa_nil))) (pe_one (pe_cmpR op_eq (pv 0) (pv 1) (nomark _)))))) pss_nil)
        (pss_cons (ps_if (pt_val (pe_callB call_isi (by rfl) B.isi PyProof.Rows.boot_isinstance (pa_cons (pv 1) (pa_cons (pe_bltn (v := .ty "int") (by rfl) B.int (by decide +kernel) rfl) pa_nil))))
          (pss_one (ps_ret (pe_and (pe_callB call_isi (by rfl) B.isi PyProof.Rows.boot_isinstance (pa_cons (pv 0) (pa_cons (pe_bltn (v := .ty "int") (by rfl) B.int (by decide +kernel) rfl) pa_nil)))
            (pe_and (pe_not (pe_callB call_isi (by rfl) B.isi PyProof.Rows.boot_isinstance (pa_cons (pv 0) (pa_cons (pe_bltn (v := .ty "bool") (by rfl) B.bool (by decide +kernel) rfl) pa_nil)))) (pe_one (pe_cmpR op_eq (pv 0) (pv 1) (nomark _))))))) pss_nil)
        (pss_cons (ps_if (pt_val (pe_callB call_isi (by rfl) B.isi PyProof.Rows.boot_isinstance (pa_cons (pv 1) (pa_cons (pe_bltn (v := .ty "str") (by rfl) B.str (by decide +kernel) rfl) pa_nil))))
          (pss_one (ps_ret (pe_and (pe_callB call_isi (by rfl) B.isi PyProof.Rows.boot_isinstance (pa_cons (pv 0) (pa_cons (pe_bltn (v := .ty "str") (by rfl) B.str (by decide +kernel) rfl) pa_nil))) (pe_one (pe_cmpR op_eq (pv 0) (pv 1) (nomark _)))))) pss_nil)
        (pss_cons (ps_if (pt_cmpR op_ne (pe_callB call_isi (by rfl) B.isi PyProof.Rows.boot_isinstance (pa_cons (pv 1) (pa_cons (pe_bltn (v := .ty "tuple") (by rfl) B.tuple (by decide +kernel) rfl) pa_nil)))
            (pe_callB call_isi (by rfl) B.isi PyProof.Rows.boot_isinstance (pa_cons (pv 0) (pa_cons (pe_bltn (v := .ty "tuple") (by rfl) B.tuple (by decide +kernel) rfl) pa_nil))) (nomark _)) (pss_one (ps_ret pe_bl)) pss_nil)
        (pss_cons (ps_if (pt_cmpR op_ne (pe_callB call_isi (by rfl) B.isi PyProof.Rows.boot_isinstance (pa_cons (pv 1) (pa_cons (pe_bltn (v := .ty "list") (by rfl) B.list (by decide +kernel) rfl) pa_nil)))
            (pe_callB call_isi (by rfl) B.isi PyProof.Rows.boot_isinstance (pa_cons (pv 0) (pa_cons (pe_bltn (v := .ty "list") (by rfl) B.list (by decide +kernel) rfl) pa_nil))) (nomark _)) (pss_one (ps_ret pe_bl)) pss_nil)
        (pss_cons (ps_if (pt_cmpR op_ne (pe_callB call_len_seq (by rfl) B.len PySem.boot_len (pa_cons (pv 0) pa_nil)) (pe_callB call_len_seq (by rfl) B.len PySem.boot_len (pa_cons (pv 1) pa_nil)) (nomark _)) (pss_one (ps_ret pe_bl)) pss_nil)
        (pss_one (ps_ret (pe_callB (cr_all rfl) (by rfl) B.all PyProof.Rows.boot_all (pa_cons (pe_lc (own := [("_law_k", 2)]) (g := gName 2) (tt := tYes) (by rfl) sc_l_equal.nd
            (pi_range1 rfl B.range (pa_cons (pe_callB call_len_seq (by rfl) B.len PySem.boot_len (pa_cons (pv 1) pa_nil)) pa_nil)) (blkOk_by (N := N_l_equal) (sc := defScope s_l_equal) (by decide +kernel))
            (fun _ _ _ _ _ => pg_name (i := 2) sc_l_equal.nd rfl (.inl rfl)) (fun _ _ _ _ _ => pts_nil)
            (te := tCall (spEqual n) [] E0 (tCons (tOp (rIx K) (tVar 0) (tVar 2)) (tCons (tOp (rIx K) (tVar 1) (tVar 2)) tNil)))
            (fun _ _ _ _ _ => pe_call ih hr (by rfl) gE F.kp bE .nil pass0 (pa_cons (pe_ix ix_seq (pv 0) (pv 2) (fun _ _ => rfl)) (pa_cons (pe_ix ix_seq (pv 1) (pv 2) (fun _ _ => rfl)) pa_nil)))) pa_nil)))))))))), ?_⟩
      rcases he with ⟨rfl, hf⟩ | ⟨p1, p2, xs, ys, rfl, rfl, h1, h2, hl, hP⟩ | ⟨p1, p2, xs, ys, rfl, rfl, h1, h2, hl, hP⟩
      · rcases hf with rfl | ⟨y, rfl⟩ | ⟨y, rfl⟩ | ⟨y, rfl⟩
        · refine ⟨_, rfl, rfl, _, rfl, iteT ⟨_, rfl, rfl, ?_⟩⟩
          exact q H (.refl H)
        · refine ⟨_, rfl, rfl, _, rfl, iteF ⟨_, rfl, _, _, _, _, true, rfl, .ty "bool", .base (.bl y), kit_ty (by decide +kernel), _, rfl, iteT ?_⟩⟩
          refine ⟨_, rfl, _, _, _, _, true, rfl, .ty "bool", .base (.bl y), kit_ty (by decide +kernel), _, rfl, iteT ⟨_, rfl, _, rfl, by cases y <;> rfl, ?_⟩⟩
          rw [decide_eq_true rfl]
          exact q H (.refl H)
        · refine ⟨_, rfl, rfl, _, rfl, iteF ⟨_, rfl, _, _, _, _, false, rfl, .ty "bool", .base (.int y), kit_ty (by decide +kernel), _, rfl, iteF ?_⟩⟩
          refine ⟨_, rfl, _, _, _, _, true, rfl, .ty "int", .base (.int y), kit_ty (by decide +kernel), _, rfl, iteT ?_⟩
          refine ⟨_, rfl, _, _, _, _, true, rfl, .ty "int", .base (.int y), kit_ty (by decide +kernel), _, rfl, iteT ?_⟩
          refine ⟨_, rfl, _, _, _, _, false, rfl, .ty "bool", .base (.int y), kit_ty (by decide +kernel), _, rfl, _, rfl, iteT ⟨_, rfl, _, rfl, rfl, ?_⟩⟩
          rw [decide_eq_true rfl]
          exact q H (.refl H)
        · refine ⟨_, rfl, rfl, _, rfl, iteF ⟨_, rfl, _, _, _, _, false, rfl, .ty "bool", .base (.str y), kit_ty (by decide +kernel), _, rfl, iteF ?_⟩⟩
          refine ⟨_, rfl, _, _, _, _, false, rfl, .ty "int", .base (.str y), kit_ty (by decide +kernel), _, rfl, iteF ?_⟩
          refine ⟨_, rfl, _, _, _, _, true, rfl, .ty "str", .base (.str y), kit_ty (by decide +kernel), _, rfl, iteT ?_⟩
          refine ⟨_, rfl, _, _, _, _, true, rfl, .ty "str", .base (.str y), kit_ty (by decide +kernel), _, rfl, iteT ⟨_, rfl, _, rfl, rfl, ?_⟩⟩
          rw [decide_eq_true rfl]
          exact q H (.refl H)
      · have el := hP.length
        refine ⟨_, rfl, rfl, _, rfl, iteF ⟨_, rfl, _, _, _, _, false, rfl, .ty "bool", .base (.tup h2), kit_ty (by decide +kernel), _, rfl, iteF ?_⟩⟩
        refine ⟨_, rfl, _, _, _, _, false, rfl, .ty "int", .base (.tup h2), kit_ty (by decide +kernel), _, rfl, iteF ?_⟩
        refine ⟨_, rfl, _, _, _, _, false, rfl, .ty "str", .base (.tup h2), kit_ty (by decide +kernel), _, rfl, iteF ?_⟩
        refine ⟨_, rfl, _, _, _, _, true, rfl, .ty "tuple", .base (.tup h2), kit_ty (by decide +kernel), _, rfl, _, _, _, _, true, rfl, .ty "tuple", .base (.tup h1), kit_ty (by decide +kernel), rfl, _, rfl, ?_⟩
        rw [bl_ne rfl]
        refine iteF ⟨_, rfl, _, _, _, _, false, rfl, .ty "list", .base (.tup h2), kit_ty (by decide +kernel), _, rfl, _, _, _, _, false, rfl, .ty "list", .base (.tup h1), kit_ty (by decide +kernel), rfl, _, rfl, ?_⟩
        rw [bl_ne rfl]
        refine iteF ⟨_, rfl, p1, xs, rfl, .inr (SqT.of h1), _, rfl, p2, ys, rfl, .inr (SqT.of h2), rfl, _, rfl, ?_⟩
        rw [show (!decide (V.int (xs.length : Int) = V.int (ys.length : Int))) = false by rw [el, decide_eq_true rfl]; rfl]
        refine iteF ⟨_, rfl, p2, ys, rfl, .inr (SqT.of h2), ys.length, rfl, by omega, by omega, fun D nD => ?_⟩
        refine lc_range (lo := 0) (n := (ys.length : Int).toNat) (fun i H' => Same H H' ∧ H' D = some (.lst ((List.replicate i true).map V.bl))) ⟨same_upd nD, upd_same⟩ ?_ ?_
        · rintro i H' hi ⟨s1, hD⟩
          have hi2 : i < ys.length := by omega
          obtain ⟨x, hx, hxy⟩ := Paired.get? (i := i) hP (List.getElem?_eq_getElem hi2)
          refine ⟨rfl, _, rfl, _, rfl, .inr (.inl ⟨p1, xs, ((i : Nat) : Int), x, rfl, by show V.int (0 + (i : Int)) = _; rw [Int.zero_add], SqT.of (s1 _ _ h1), atI_nat hx, ?_⟩)⟩
          refine ⟨_, rfl, _, rfl, .inr (.inl ⟨p2, ys, ((i : Nat) : Int), _, rfl, by show V.int (0 + (i : Int)) = _; rw [Int.zero_add], SqT.of (s1 _ _ h2), atI_nat (List.getElem?_eq_getElem hi2), ?_⟩)⟩
          refine ⟨x, _, rfl, hxy.same s1, fun H2 s2 => ?_⟩
          refine ⟨_, s2 _ _ hD, ?_, same_updN (s1.trans s2) nD, ?_⟩
          · rw [List.length_map, List.length_replicate]
            exact small1000 (by omega)
          · rw [upd_same, List.replicate_succ', List.map_append]
            rfl
        · rintro H' ⟨s1, hD⟩
          refine ⟨D, _, rfl, SqL.of hD, ?_⟩
          rw [show (List.replicate (ys.length : Int).toNat true).all id = true by simp]
          exact q _ s1
      · have el := hP.length
        refine ⟨_, rfl, rfl, _, rfl, iteF ⟨_, rfl, _, _, _, _, false, rfl, .ty "bool", .base (.lst h2), kit_ty (by decide +kernel), _, rfl, iteF ?_⟩⟩
        refine ⟨_, rfl, _, _, _, _, false, rfl, .ty "int", .base (.lst h2), kit_ty (by decide +kernel), _, rfl, iteF ?_⟩
        refine ⟨_, rfl, _, _, _, _, false, rfl, .ty "str", .base (.lst h2), kit_ty (by decide +kernel), _, rfl, iteF ?_⟩
        refine ⟨_, rfl, _, _, _, _, false, rfl, .ty "tuple", .base (.lst h2), kit_ty (by decide +kernel), _, rfl, _, _, _, _, false, rfl, .ty "tuple", .base (.lst h1), kit_ty (by decide +kernel), rfl, _, rfl, ?_⟩
        rw [bl_ne rfl]
        refine iteF ⟨_, rfl, _, _, _, _, true, rfl, .ty "list", .base (.lst h2), kit_ty (by decide +kernel), _, rfl, _, _, _, _, true, rfl, .ty "list", .base (.lst h1), kit_ty (by decide +kernel), rfl, _, rfl, ?_⟩
        rw [bl_ne rfl]
        refine iteF ⟨_, rfl, p1, xs, rfl, .inl (SqL.of h1), _, rfl, p2, ys, rfl, .inl (SqL.of h2), rfl, _, rfl, ?_⟩
        rw [show (!decide (V.int (xs.length : Int) = V.int (ys.length : Int))) = false by rw [el, decide_eq_true rfl]; rfl]
        refine iteF ⟨_, rfl, p2, ys, rfl, .inl (SqL.of h2), ys.length, rfl, by omega, by omega, fun D nD => ?_⟩
        refine lc_range (lo := 0) (n := (ys.length : Int).toNat) (fun i H' => Same H H' ∧ H' D = some (.lst ((List.replicate i true).map V.bl))) ⟨same_upd nD, upd_same⟩ ?_ ?_
        · rintro i H' hi ⟨s1, hD⟩
          have hi2 : i < ys.length := by omega
          obtain ⟨x, hx, hxy⟩ := Paired.get? (i := i) hP (List.getElem?_eq_getElem hi2)
          refine ⟨rfl, _, rfl, _, rfl, .inl ⟨p1, xs, ((i : Nat) : Int), x, rfl, by show V.int (0 + (i : Int)) = _; rw [Int.zero_add], SqL.of (s1 _ _ h1), atI_nat hx, ?_⟩⟩
          refine ⟨_, rfl, _, rfl, .inl ⟨p2, ys, ((i : Nat) : Int), _, rfl, by show V.int (0 + (i : Int)) = _; rw [Int.zero_add], SqL.of (s1 _ _ h2), atI_nat (List.getElem?_eq_getElem hi2), ?_⟩⟩
          refine ⟨x, _, rfl, hxy.same s1, fun H2 s2 => ?_⟩
          refine ⟨_, s2 _ _ hD, ?_, same_updN (s1.trans s2) nD, ?_⟩
          · rw [List.length_map, List.length_replicate]
            exact small1000 (by omega)
          · rw [upd_same, List.replicate_succ', List.map_append]
            rfl
        · rintro H' ⟨s1, hD⟩
          refine ⟨D, _, rfl, SqL.of hD, ?_⟩
          rw [show (List.replicate (ys.length : Int).toNat true).all id = true by simp]
          exact q _ s1
end
theorem optEqv {H : Hp} {v v' : V} {o : Option (Nat × Nat)} (h : OptStop H v o) (h' : OptStop H v' o) : Eqv 1 H v v' := by
  cases o with
  | none =>
    obtain rfl : v = .non := h
    obtain rfl : v' = .non := h'
    exact Eqv.non
  | some s =>
    obtain ⟨u, rfl, hu⟩ := h
    obtain ⟨u2, rfl, hu2⟩ := h'
    exact .inr (.inl ⟨u, u2, _, _, rfl, rfl, hu, hu2, by show 2 ≤ 1000; decide, .cons Eqv.int (.cons Eqv.int .nil)⟩)
theorem OptStop.keep {H H' : Hp} {v : V} {o : Option (Nat × Nat)} (k : TupKeep H H') (h : OptStop H v o) : OptStop H' v o := by
  cases o with
  | none => exact h
  | some s => exact StopAt.keep k h
/-! ### the law -/
def spLaw (K : PySem.W.Frag) : Sp := fun vs H Q _ => ∃ (a : Addr) (ns : List Int), vs = [.ref a] ∧ SqL K H a (ns.map V.int) ∧ ns.length ≤ 63 ∧ ∀ H', Q (.bl true) H'
/-- all that the law's step leans on, at the heap H -/
structure StepAt (C : Addr) (H : Hp) (d ap x t : Addr) (p h : Nat) (os : List Od) (F : List Addr) : Prop where
  D : DAt H d
  pa : H ap = some (.tup [.int p, .int h, .ref t])
  po : OrdsTup H t os
  N : NetAt C H x p h os t F
theorem StepAt.keep {C : Addr} {H H' : Hp} {d ap x t : Addr} {p h : Nat} {os : List Od} {F : List Addr} (S : StepAt C H d ap x t p h os F) (s : Same H H') : StepAt C H' d ap x t p h os F :=
  ⟨S.D.but s, s _ _ S.pa, S.po.keep (tk_of s), S.N.same s⟩
theorem StepAt.but {C : Addr} {H H' : Hp} {d ap x t : Addr} {p h : Nat} {os : List Od} {F : List Addr} (S : StepAt C H d ap x t p h os F) (s : But d H H') (D' : DAt H' d) (nF : d ∉ F) : StepAt C H' d ap x t p h os F :=
  ⟨D', s.tk S.D _ _ S.pa, S.po.keep (s.tk S.D), S.N.but s (s.tk S.D) nF⟩
theorem StepAt.lst {C : Addr} {H : Hp} {d ap x t u : Addr} {p h : Nat} {os : List Od} {F : List Addr} {xs : List V} {o : HO} (S : StepAt C H d ap x t p h os F) (hu : H u = some (.lst xs)) (nd : d ≠ u) (nF : u ∉ F) : StepAt C (upd H u o) d ap x t p h os F := by
  have tk : TupKeep H (upd H u o) := TupKeep.lst hu
  exact ⟨S.D.updN nd, tk _ _ S.pa, S.po.keep tk, S.N.but .upd tk nF⟩
theorem StepAt.parts {C : Addr} {H : Hp} {d ap x t : Addr} {p h : Nat} {os : List Od} {F : List Addr} (S : StepAt C H d ap x t p h os F) : PartsAt H ap p h os := ⟨t, S.pa, S.po⟩
theorem ordsEqv {H : Hp} {t : Addr} {os : List Od} (h : OrdsTup H t os) (l : os.length ≤ 20) : Eqv 2 H (.ref t) (.ref t) := by
  obtain ⟨ts, ht, hP⟩ := h
  refine .inr (.inl ⟨t, t, ts, ts, rfl, rfl, ht, ht, by rw [hP.length]; omega, ?_⟩)
  clear l ht
  induction hP with
  | nil => exact .nil
  | cons r _ ih =>
    refine .cons ?_ ih
    obtain ⟨u, rfl, hu⟩ := r
    exact .inr (.inl ⟨u, u, _, _, rfl, rfl, hu, hu, by show 5 ≤ 1000; decide, .cons Eqv.int (.cons Eqv.int (.cons Eqv.int (.cons Eqv.int (.cons Eqv.int .nil))))⟩)
theorem nintsEqv {H : Hp} {a b : Addr} {l : List Nat} (ha : H a = some (.lst (nints l))) (hb : H b = some (.lst (nints l))) (hl : l.length ≤ 1000) : Eqv 1 H (.ref a) (.ref b) := by
  refine .inr (.inr ⟨a, b, _, _, rfl, rfl, ha, hb, by unfold nints; rw [List.length_map]; exact hl, ?_⟩)
  unfold nints
  clear ha hb hl
  induction l with
  | nil => exact .nil
  | cons n l ih => exact .cons ⟨rfl, .inr (.inr (.inl ⟨_, rfl⟩))⟩ ih
theorem stopsEqv {H : Hp} {a b : Addr} {xs ys : List V} {l : List (Nat × Nat)} (ha : H a = some (.lst xs)) (hb : H b = some (.lst ys)) (hx : Paired (StopAt H) xs l) (hy : Paired (StopAt H) ys l) (hl : l.length ≤ 1000) : Eqv 2 H (.ref a) (.ref b) := by
  refine .inr (.inr ⟨a, b, _, _, rfl, rfl, ha, hb, by rw [hx.length]; exact hl, ?_⟩)
  clear ha hb hl
  induction hx generalizing ys with
  | nil => cases hy; exact .nil
  | cons r _ ih =>
    cases hy with
    | cons r2 t2 =>
      refine .cons ?_ (ih t2)
      obtain ⟨u, rfl, hu⟩ := r
      obtain ⟨u2, rfl, hu2⟩ := r2
      exact .inr (.inl ⟨u, u2, _, _, rfl, rfl, hu, hu2, by show 2 ≤ 1000; decide, .cons (Eqv.int) (.cons Eqv.int .nil)⟩)
theorem optV_flat1 (o : Option Nat) : Flat1 (optV o) := by
  cases o with
  | none => exact .inl rfl
  | some k => exact .inr (.inr (.inl ⟨_, rfl⟩))
theorem Paired.last {α β : Type} {F : α → β → Prop} {xs : List α} {l : List β} {s : β} (h : Paired F xs (l ++ [s])) : ∃ ys v, xs = ys ++ [v] ∧ Paired F ys l ∧ F v s := by
  induction l generalizing xs with
  | nil =>
    cases h with
    | cons r t =>
      cases t
      exact ⟨[], _, rfl, .nil, r⟩
  | cons b l ih =>
    cases h with
    | cons r t =>
      obtain ⟨ys, v, rfl, h1, h2⟩ := ih t
      exact ⟨_ :: ys, v, rfl, .cons r h1, h2⟩
theorem Paired.take {α β : Type} {F : α → β → Prop} {xs : List α} {l : List β} (h : Paired F xs l) : ∀ n, Paired F (xs.take n) (l.take n) := by
  induction h with
  | nil =>
    intro n
    rw [List.take_nil, List.take_nil]
    exact .nil
  | cons r _ ih =>
    intro n
    cases n with
    | zero => exact .nil
    | succ n => exact .cons r (ih n)
theorem nints_dp {K : PySem.W.Frag} {H : Hp} {a : Addr} {l : List Nat} (h : H a = some (.lst (nints l))) : Dp K H (.ref a) (.list ((l.map fun (n : Nat) => (n : Int)).map PyData.int)) := by
  refine .lst (SqL.of h) ?_
  clear h
  unfold nints
  induction l with
  | nil => exact .nil
  | cons n l ih => exact .cons (.int _) ih
theorem nints_eqv (l : List Int) : PyData.eqv (.list (l.map PyData.int)) (.list (l.map PyData.int)) = true :=
  PySem.SeqAt.eqv_refl _ (PySem.SeqAt.canLay_of_shaped (PySem.W.ke_shaped_ints l))
/-! ### loops: plain mathematics -/
theorem plc_shf {p k : Nat} (s : Nat × Nat) : plc p (shf (p * k) s) = plc p s := by
  unfold plc shf
  rw [Nat.add_mul_mod_self_left]
theorem plc_plc {p : Nat} (s : Nat × Nat) : plc p (plc p s) = plc p s := by
  unfold plc
  rw [Nat.mod_mod]
theorem shf_plc {p : Nat} (s : Nat × Nat) : s = shf (p * (s.2 / p)) (plc p s) := by
  obtain ⟨a, d⟩ := s
  show (a, d) = (a, d % p + p * (d / p))
  rw [Nat.add_comm, Nat.div_add_mod]
/-- a letter's place behind i hops -/
def pst (p : Nat) (os : List Od) (i : Nat) (q : Nat × Nat) : Option (Nat × Nat) := (stp p os i q).map (plc p)
theorem pst_shf {p i k : Nat} {os : List Od} (s : Nat × Nat) : pst p os i (shf (p * k) s) = pst p os i s := by
  unfold pst
  rw [stp_shf, Option.map_map]
  congr 1
  funext t
  exact plc_shf t
theorem pst_plc {p i : Nat} {os : List Od} (s : Nat × Nat) : pst p os i (plc p s) = pst p os i s := by
  conv => rhs; rw [shf_plc (p := p) s]
  rw [pst_shf]
theorem pst_add {p i j : Nat} {os : List Od} (s : Nat × Nat) : pst p os (i + j) s = (pst p os i s).bind (pst p os j) := by
  unfold pst
  rw [stp_add]
  cases stp p os i s with
  | none => rfl
  | some c => exact (pst_plc c).symm
theorem pst_zero {p : Nat} {os : List Od} (s : Nat × Nat) : pst p os 0 s = some (plc p s) := rfl
/-- l is a loop: the places that f goes through, again and again -/
structure CycF (p : Nat) (os : List Od) (l : List (Nat × Nat)) (f : Nat → Nat × Nat) (n : Nat) : Prop where
  n0 : 0 < n
  eq : l = (List.range n).map f
  nd : l.Nodup
  nx : ∀ i, pst p os 1 (f i) = some (f (i + 1))
  per : ∀ i, f (i + n) = f i
def Cyc (p : Nat) (os : List Od) (l : List (Nat × Nat)) : Prop := ∃ f n, CycF p os l f n
section
variable {p : Nat} {os : List Od} {l l' : List (Nat × Nat)} {f g : Nat → Nat × Nat} {n m : Nat}
theorem CycF.len (c : CycF p os l f n) : l.length = n := by rw [c.eq, List.length_map, List.length_range]
theorem CycF.get (c : CycF p os l f n) {i : Nat} (h : i < n) : l[i]? = some (f i) := by rw [c.eq, List.getElem?_map, List.getElem?_range h]; rfl
theorem CycF.perk (c : CycF p os l f n) (i : Nat) : ∀ k, f (i + n * k) = f i
  | 0 => rfl
  | k + 1 => by
    rw [Nat.mul_succ, ← Nat.add_assoc, c.per]
    exact c.perk i k
theorem CycF.mod (c : CycF p os l f n) (i : Nat) : f (i % n) = f i := by
  have h := c.perk (i % n) (i / n)
  rw [Nat.mod_add_div] at h
  exact h.symm
theorem CycF.mem (c : CycF p os l f n) {x : Nat × Nat} : x ∈ l ↔ ∃ i, x = f i := by
  rw [c.eq, List.mem_map]
  constructor
  · rintro ⟨i, _, rfl⟩
    exact ⟨i, rfl⟩
  · rintro ⟨i, rfl⟩
    exact ⟨i % n, List.mem_range.mpr (Nat.mod_lt _ c.n0), c.mod i⟩
theorem CycF.inj (c : CycF p os l f n) {i j : Nat} (hi : i < n) (hj : j < n) (e : f i = f j) : i = j := by
  have a := c.get hi
  have b := c.get hj
  rw [← e] at b
  exact (List.getElem?_inj (by rw [c.len]; exact hi) c.nd).mp (a.trans b.symm)
theorem CycF.place (c : CycF p os l f n) (i : Nat) : plc p (f i) = f i := by
  have h := c.nx (i + (n - 1))
  have n0 := c.n0
  rw [show i + (n - 1) + 1 = i + n by omega, c.per] at h
  unfold pst at h
  obtain ⟨t, _, e⟩ := Option.map_eq_some_iff.mp h
  rw [← e]
  exact plc_plc t
theorem CycF.steps (c : CycF p os l f n) (i : Nat) : ∀ k, pst p os k (f i) = some (f (i + k))
  | 0 => by rw [pst_zero, c.place]; rfl
  | k + 1 => by
    rw [pst_add, c.steps i k]
    exact c.nx (i + k)
/-- the rest of both, from a shared place -/
theorem CycF.along (c : CycF p os l f n) (d : CycF p os l' g m) {i j : Nat} (e : f i = g j) (k : Nat) : f (i + k) = g (j + k) := by
  have a := c.steps i k
  rw [e, d.steps j k] at a
  exact (Option.some.inj a).symm
theorem CycF.le_of (c : CycF p os l f n) (d : CycF p os l' g m) {i j : Nat} (e : f i = g j) : n ≤ m := by
  refine Nat.le_of_not_lt fun lt => ?_
  have h := c.along d e m
  rw [d.per, ← e, ← c.mod (i + m), ← c.mod i] at h
  have n0 := c.n0
  have m0 := d.n0
  have := c.inj (Nat.mod_lt _ n0) (Nat.mod_lt _ n0) h
  have e2 : (i + m) % n = (i % n + m) % n := by rw [Nat.mod_add_mod]
  rw [e2] at this
  have hi := Nat.mod_lt i n0
  by_cases z : i % n + m < n
  · rw [Nat.mod_eq_of_lt z] at this
    omega
  · rw [Nat.mod_eq_sub_mod (by omega), Nat.mod_eq_of_lt (by omega)] at this
    omega
theorem CycF.same_len (c : CycF p os l f n) (d : CycF p os l' g m) {i j : Nat} (e : f i = g j) : n = m := Nat.le_antisymm (c.le_of d e) (d.le_of c e.symm)
theorem CycF.sub (c : CycF p os l f n) (d : CycF p os l' g m) {i j : Nat} (e : f i = g j) {x : Nat × Nat} (hx : x ∈ l) : x ∈ l' := by
  obtain ⟨k, rfl⟩ := c.mem.mp hx
  have h := c.along d e (k + (n * (i + 1) - i))
  have n0 := c.n0
  have hge : i ≤ n * (i + 1) := Nat.le_trans (Nat.le_succ i) (Nat.le_mul_of_pos_left _ n0)
  rw [show i + (k + (n * (i + 1) - i)) = k + n * (i + 1) by omega, c.perk] at h
  rw [h]
  exact d.mem.mpr ⟨_, rfl⟩
theorem CycF.eq_of_head (c : CycF p os l f n) (d : CycF p os l' g m) (e : f 0 = g 0) : l = l' := by
  obtain rfl := c.same_len d e
  rw [c.eq, d.eq]
  refine List.map_congr_left fun i _ => ?_
  have := c.along d e i
  rw [Nat.zero_add] at this
  exact this
theorem CycF.turn (c : CycF p os l f n) : CycF p os (l.drop 1 ++ l.take 1) (fun i => f (i + 1)) n := by
  have n0 := c.n0
  have hl : l.drop 1 ++ l.take 1 = (List.range n).map fun i => f (i + 1) := by
    obtain ⟨k, rfl⟩ : ∃ k, n = k + 1 := ⟨n - 1, by omega⟩
    have e1 : l = f 0 :: (List.range k).map fun i => f (i + 1) := by
      rw [c.eq, List.range_succ_eq_map, List.map_cons, List.map_map]
      rfl
    rw [e1, List.range_succ, List.map_append]
    show (List.range k).map _ ++ [f 0] = _
    have := c.per 0
    rw [Nat.zero_add] at this
    rw [← this]
    rfl
  refine ⟨n0, hl, ?_, fun i => c.nx (i + 1), fun i => ?_⟩
  · refine List.Perm.nodup (l := l) ?_ c.nd
    have h := List.perm_append_comm (l₁ := l.take 1) (l₂ := l.drop 1)
    rw [List.take_append_drop] at h
    exact h
  · show f (i + n + 1) = f (i + 1)
    rw [show i + n + 1 = (i + 1) + n by omega, c.per]
end
/-- stops, one before the other -/
def ltS (s t : Nat × Nat) : Bool := if s.1 = t.1 then decide (s.2 < t.2) else decide (s.1 < t.1)
theorem ltS_iff {s t : Nat × Nat} : ltS s t = true ↔ s.1 < t.1 ∨ (s.1 = t.1 ∧ s.2 < t.2) := by
  unfold ltS
  split
  · rename_i h
    rw [decide_eq_true_iff]
    omega
  · rename_i h
    rw [decide_eq_true_iff]
    omega
theorem ltS_no {s t : Nat × Nat} : ltS s t = false ↔ ¬ (s.1 < t.1 ∨ (s.1 = t.1 ∧ s.2 < t.2)) := by
  rw [← ltS_iff]
  cases ltS s t <;> simp
theorem ltS_anti {s t : Nat × Nat} (h1 : ltS s t = false) (h2 : ltS t s = false) : s = t := by
  have a := ltS_no.mp h1
  have b := ltS_no.mp h2
  exact Prod.ext (by omega) (by omega)
theorem ltS_trans {s t u : Nat × Nat} (h1 : ltS s t = true) (h2 : ltS t u = true) : ltS s u = true := by
  have a := ltS_iff.mp h1
  have b := ltS_iff.mp h2
  exact ltS_iff.mpr (by omega)
/-- the least stop -/
def minS (x : Nat × Nat) (xs : List (Nat × Nat)) : Nat × Nat := xs.foldl (fun a y => if ltS y a then y else a) x
theorem minS_spec : ∀ (xs : List (Nat × Nat)) (x : Nat × Nat), minS x xs ∈ x :: xs ∧ ∀ y ∈ x :: xs, ltS y (minS x xs) = false
  | [], x => ⟨List.mem_cons_self, fun y hy => by
      rw [List.mem_singleton.mp hy]
      exact ltS_no.mpr (by show ¬ (x.1 < x.1 ∨ (x.1 = x.1 ∧ x.2 < x.2)); omega)⟩
  | z :: r, x => by
    show minS (if ltS z x then z else x) r ∈ _ ∧ ∀ y ∈ _, ltS y (minS (if ltS z x then z else x) r) = false
    obtain ⟨h1, h2⟩ := minS_spec r (if ltS z x then z else x)
    generalize hw : (if ltS z x then z else x) = w at h1 h2
    have hwm : w = z ∨ w = x := by
      rw [← hw]
      split
      · exact .inl rfl
      · exact .inr rfl
    have hwl : ltS z w = false ∧ ltS x w = false := by
      by_cases c : ltS z x = true
      · rw [if_pos c] at hw
        subst hw
        have := ltS_iff.mp c
        exact ⟨ltS_no.mpr (by omega), ltS_no.mpr (by omega)⟩
      · rw [if_neg c] at hw
        subst hw
        exact ⟨Bool.eq_false_iff.mpr c, ltS_no.mpr (by omega)⟩
    refine ⟨?_, fun y hy => ?_⟩
    · rcases List.mem_cons.mp h1 with e | e
      · rw [e]
        rcases hwm with e | e <;> rw [e] <;> simp
      · exact List.mem_cons_of_mem _ (List.mem_cons_of_mem _ e)
    · have key : ∀ u, ltS u w = false → ltS u (minS w r) = false := fun u hu => by
        have a := ltS_no.mp hu
        have b := ltS_no.mp (h2 w List.mem_cons_self)
        exact ltS_no.mpr (by omega)
      rcases List.mem_cons.mp hy with e | e
      · rw [e]
        exact key x hwl.2
      · rcases List.mem_cons.mp e with e | e
        · rw [e]
          exact key z hwl.1
        · exact h2 y (List.mem_cons_of_mem _ e)
/-- a list that begins with its least stop -/
def hm : List (Nat × Nat) → Bool
  | [] => false
  | x :: xs => decide (x = minS x xs)
theorem hm_iff {x : Nat × Nat} {xs : List (Nat × Nat)} : hm (x :: xs) = true ↔ ∀ y ∈ x :: xs, ltS y x = false := by
  unfold hm
  rw [decide_eq_true_iff]
  obtain ⟨h1, h2⟩ := minS_spec xs x
  constructor
  · intro e
    rw [← e] at h2
    exact h2
  · intro h
    exact ltS_anti (h2 x List.mem_cons_self) (h _ h1)
section
variable {p : Nat} {os : List Od} {l l' : List (Nat × Nat)}
theorem Cyc.cons (c : Cyc p os l) : ∃ x xs, l = x :: xs := by
  obtain ⟨f, n, c⟩ := c
  cases l with
  | nil =>
    have a := c.len
    have b := c.n0
    simp at a
    omega
  | cons x xs => exact ⟨x, xs, rfl⟩
/-- loops that share a stop and begin with their least are the same -/
theorem Cyc.uniq (c : Cyc p os l) (d : Cyc p os l') (h : hm l = true) (h' : hm l' = true) {x : Nat × Nat} (hx : x ∈ l) (hx' : x ∈ l') : l = l' := by
  obtain ⟨f, n, c⟩ := c
  obtain ⟨g, m, d⟩ := d
  obtain ⟨i, rfl⟩ := c.mem.mp hx
  obtain ⟨j, e⟩ := d.mem.mp hx'
  have hf : l[0]? = some (f 0) := c.get c.n0
  have hg : l'[0]? = some (g 0) := d.get d.n0
  have m1 : f 0 ∈ l' := c.sub d e (List.mem_of_getElem? hf)
  have m2 : g 0 ∈ l := d.sub c e.symm (List.mem_of_getElem? hg)
  refine c.eq_of_head d ?_
  cases l with
  | nil => cases hf
  | cons x xs =>
    cases l' with
    | nil => cases hg
    | cons y ys =>
      obtain rfl : x = f 0 := Option.some.inj hf
      obtain rfl : y = g 0 := Option.some.inj hg
      exact ltS_anti (hm_iff.mp h' _ m1) (hm_iff.mp h _ m2)
theorem Cyc.turn (c : Cyc p os l) : Cyc p os (l.drop 1 ++ l.take 1) := by
  obtain ⟨f, n, c⟩ := c
  exact ⟨_, _, c.turn⟩
theorem turn_mem {x : Nat × Nat} : x ∈ l.drop 1 ++ l.take 1 ↔ x ∈ l := by
  have h := List.perm_append_comm (l₁ := l.take 1) (l₂ := l.drop 1)
  rw [List.take_append_drop] at h
  exact h.mem_iff.symm
end
/-! ### the loops of a net: plain mathematics -/
theorem pst_house {p h : Nat} {os : List Od} {st : Nat × Nat} (ok : NetOk p h os) (hh : st.1 < h) : ∀ (i : Nat) {s : Nat × Nat}, stp p os i st = some s → s.1 < h
  | 0, s, e => by
    cases e
    exact hh
  | i + 1, s, e => by
    obtain ⟨c, hc, e⟩ := Option.bind_eq_some_iff.mp (show (stp p os i st).bind (hop p os) = some s from e)
    exact hop_house ok e
theorem pst_get {p i : Nat} {os : List Od} {st s : Nat × Nat} (e : stp p os i st = some s) : pst p os i st = some (plc p s) := by
  unfold pst
  rw [e]
  rfl
theorem pst_next {p i : Nat} {os : List Od} {st s t : Nat × Nat} (e : stp p os i st = some s) (e2 : stp p os (i + 1) st = some t) : pst p os 1 (plc p s) = some (plc p t) := by
  have h := pst_add (p := p) (os := os) (i := i) (j := 1) st
  rw [pst_get e, pst_get e2] at h
  exact h.symm
/-- what a letter that chases goes through again and again, from where it comes back to -/
def rawOf (p h : Nat) (os : List Od) (q : Nat × Nat) : Option (List (Nat × Nat)) := match (folR p h os q).2 with
  | none => none
  | some b => some (((folR p h os q).1.dropLast.drop b).map (plc p))
/-- the loop of a letter that comes back to its first stop -/
def lpOf (p h : Nat) (os : List Od) (q : Nat × Nat) : Option (List (Nat × Nat)) := match (folR p h os q).2 with
  | some 0 => some ((folR p h os q).1.dropLast.map (plc p))
  | _ => none
theorem raw_cycF {p h : Nat} {os : List Od} {q : Nat × Nat} {l : List (Nat × Nat)} (ok : NetOk p h os) (hh : q.1 < h) (e : rawOf p h os q = some l) : Cyc p os l ∧ (∀ x ∈ l, x.1 < h) ∧
    ∃ m s b, folR p h os q = (m ++ [s], some b) ∧ l = (m.drop b).map (plc p) ∧ plc p s ∈ l ∧ b < m.length ∧ ∀ x xs, l = x :: xs → ∃ t, m[b]? = some t ∧ x = plc p t := by
  rcases folR_cases ok hh with ⟨l', e', _⟩ | ⟨m, s, b, t, k, e', hl, hb, hs, hk, nd⟩
  · unfold rawOf at e
    rw [e'] at e
    cases e
  · unfold rawOf at e
    rw [e'] at e
    simp only [List.dropLast_concat] at e
    obtain rfl := Option.some.inj e
    have hbl : b < m.length := (List.getElem?_eq_some_iff.mp hb).1
    have hget : ∀ i, i < m.length → ∃ c, m[i]? = some c ∧ stp p os i q = some c := fun i hi => by
      have a := hl i (Nat.le_of_lt hi)
      rw [List.getElem?_append_left hi] at a
      exact ⟨m[i], List.getElem?_eq_getElem hi, a.symm.trans (List.getElem?_eq_getElem hi)⟩
    have hgs : stp p os m.length q = some s := by
      have a := hl m.length (Nat.le_refl _)
      rw [List.getElem?_append_right (Nat.le_refl _), Nat.sub_self] at a
      exact a.symm
    have hst : plc p s = plc p t := by rw [hs, plc_shf]
    have n0 : 0 < m.length - b := by omega
    let f : Nat → Nat × Nat := fun i => plc p (m.getD (b + i % (m.length - b)) (0, 0))
    have hf : ∀ i, i < m.length - b → ∃ c, m[b + i]? = some c ∧ stp p os (b + i) q = some c ∧ f i = plc p c := fun i hi => by
      obtain ⟨c, h1, h2⟩ := hget (b + i) (by omega)
      refine ⟨c, h1, h2, ?_⟩
      show plc p (m.getD (b + i % (m.length - b)) (0, 0)) = _
      rw [Nat.mod_eq_of_lt hi, List.getD_eq_getElem?_getD, h1]
      rfl
    have per : ∀ i, f (i + (m.length - b)) = f i := fun i => by
      show plc p (m.getD (b + (i + (m.length - b)) % (m.length - b)) (0, 0)) = _
      rw [Nat.add_mod_right]
    have modf : ∀ i, f (i % (m.length - b)) = f i := fun i => by
      show plc p (m.getD (b + (i % (m.length - b)) % (m.length - b)) (0, 0)) = _
      rw [Nat.mod_mod]
    have eql : (m.drop b).map (plc p) = (List.range (m.length - b)).map f := by
      refine List.ext_getElem? fun i => ?_
      rw [List.getElem?_map, List.getElem?_drop, List.getElem?_map]
      by_cases hi : i < m.length - b
      · obtain ⟨c, h1, _, h3⟩ := hf i hi
        rw [h1, List.getElem?_range hi]
        show some (plc p c) = some (f i)
        rw [h3]
      · rw [List.getElem?_eq_none (by omega), List.getElem?_eq_none (by rw [List.length_range]; omega)]
        rfl
    have nx : ∀ i, pst p os 1 (f i) = some (f (i + 1)) := fun i => by
      have hi := Nat.mod_lt i n0
      obtain ⟨c, h1, h2, h3⟩ := hf _ hi
      rw [← modf i, h3]
      by_cases z : i % (m.length - b) + 1 < m.length - b
      · obtain ⟨c', _, g2, g3⟩ := hf _ z
        have e1 : f (i + 1) = f (i % (m.length - b) + 1) := by rw [← modf (i + 1), ← modf (i % (m.length - b) + 1), Nat.mod_add_mod]
        rw [e1, g3]
        exact pst_next h2 g2
      · have e1 : f (i + 1) = f 0 := by
          rw [← modf (i + 1), ← Nat.mod_add_mod, show i % (m.length - b) + 1 = m.length - b by omega, Nat.mod_self]
        obtain ⟨c', k1, _, k3⟩ := hf 0 n0
        rw [Nat.add_zero] at k1
        obtain rfl : t = c' := Option.some.inj (hb.symm.trans k1)
        rw [e1, k3, ← hst]
        refine pst_next h2 ?_
        rw [show b + i % (m.length - b) + 1 = m.length by omega]
        exact hgs
    have nd2 : ((m.drop b).map (plc p)).Nodup := by
      rw [List.map_drop]
      exact nd.sublist (List.drop_sublist _ _)
    refine ⟨⟨f, _, n0, eql, nd2, nx, per⟩, fun x hx => ?_, m, s, b, e', rfl, ?_, hbl, fun x xs ex => ?_⟩
    · obtain ⟨c, hc, rfl⟩ := List.mem_map.mp hx
      obtain ⟨i, hi⟩ := List.getElem?_of_mem (List.mem_of_mem_drop hc)
      obtain ⟨c', k1, k2⟩ := hget i (List.getElem?_eq_some_iff.mp hi).1
      obtain rfl : c' = c := Option.some.inj (k1.symm.trans hi)
      exact (show c'.1 < h from pst_house ok hh i k2)
    · rw [hst]
      refine List.mem_map.mpr ⟨t, List.mem_of_getElem? (i := 0) ?_, rfl⟩
      rw [List.getElem?_drop]
      exact hb
    · have h0 : ((m.drop b).map (plc p))[0]? = some x := by rw [ex]; rfl
      rw [List.getElem?_map, List.getElem?_drop, Nat.add_zero, hb] at h0
      exact ⟨t, hb, (Option.some.inj h0).symm⟩
theorem lp_raw {p h : Nat} {os : List Od} {q : Nat × Nat} {l : List (Nat × Nat)} (e : lpOf p h os q = some l) : rawOf p h os q = some l := by
  unfold lpOf at e
  unfold rawOf
  split at e
  · rename_i h2
    rw [h2]
    exact e
  · cases e
theorem lp_cyc {p h : Nat} {os : List Od} {q : Nat × Nat} {l : List (Nat × Nat)} (ok : NetOk p h os) (hh : q.1 < h) (e : lpOf p h os q = some l) : Cyc p os l ∧ (∀ x ∈ l, x.1 < h) ∧ ∃ xs, l = plc p q :: xs := by
  obtain ⟨c, hx, m, s, b, e1, e2, _, hb, hd⟩ := raw_cycF ok hh (lp_raw e)
  refine ⟨c, hx, ?_⟩
  obtain ⟨x, xs, rfl⟩ := c.cons
  refine ⟨xs, ?_⟩
  obtain ⟨t, ht, rfl⟩ := hd x xs rfl
  unfold lpOf at e
  rw [e1] at e
  have b0 : b = 0 := by
    cases b with
    | zero => rfl
    | succ n => cases e
  subst b0
  have : (way p os (h * p + 1) q)[0]? = some q := by
    rw [show way p os (h * p + 1) q = rest p os (h * p + 1) (some q) from rfl, rest_succ]
    rfl
  rcases folR_cases ok hh with ⟨l', e', _⟩ | ⟨m', s', b', t', k, e', hl, _⟩
  · rw [e1] at e'
    cases e'
  · rw [e1] at e'
    have e5 := (Prod.mk.inj e').1
    have h0 := hl 0 (Nat.zero_le _)
    rw [← e5, List.getElem?_append_left hb, ht] at h0
    obtain rfl : t = q := Option.some.inj h0
    rfl
/-- a letter that is posted on a loop comes back to its first stop -/
theorem cyc_lp {p h n : Nat} {os : List Od} {l : List (Nat × Nat)} {f : Nat → Nat × Nat} (ok : NetOk p h os) (c : CycF p os l f n) (hq : (f 0).1 < h) : lpOf p h os (f 0) = some l ∧ (folR p h os (f 0)).2 = some 0 := by
  have st : ∀ i, ∃ s, stp p os i (f 0) = some s ∧ plc p s = f i := fun i => by
    have h1 := c.steps 0 i
    rw [Nat.zero_add] at h1
    exact Option.map_eq_some_iff.mp h1
  rcases folR_cases ok hq with ⟨l', _, _, hl, _⟩ | ⟨m, s, b, t, k, e', hl, hb, hs, hk, nd⟩
  · obtain ⟨s, h1, _⟩ := st l'.length
    rw [← hl, List.getElem?_eq_none (Nat.le_refl _)] at h1
    cases h1
  · have hbl : b < m.length := (List.getElem?_eq_some_iff.mp hb).1
    have n0 := c.n0
    have hmf : m.map (plc p) = (List.range m.length).map f := by
      refine List.ext_getElem? fun i => ?_
      rw [List.getElem?_map, List.getElem?_map]
      by_cases hi : i < m.length
      · have a := hl i (Nat.le_of_lt hi)
        rw [List.getElem?_append_left hi] at a
        obtain ⟨s', h1, h2⟩ := st i
        rw [a, h1, List.getElem?_range hi]
        show some (plc p s') = some (f i)
        rw [h2]
      · rw [List.getElem?_eq_none (by omega), List.getElem?_eq_none (by rw [List.length_range]; omega)]
        rfl
    have fs : f m.length = f b := by
      have a := hl m.length (Nat.le_refl _)
      rw [List.getElem?_append_right (Nat.le_refl _), Nat.sub_self] at a
      obtain ⟨s', h1, h2⟩ := st m.length
      have e1 : s = s' := Option.some.inj (a.trans h1)
      have a2 := hl b (Nat.le_of_lt hbl)
      rw [List.getElem?_append_left hbl, hb] at a2
      obtain ⟨t', h3, h4⟩ := st b
      have e2 : t = t' := Option.some.inj (a2.trans h3)
      rw [← h2, ← h4, ← e1, ← e2, hs, plc_shf]
    have hle : m.length ≤ n := by
      refine Nat.le_of_not_lt fun lt => ?_
      have a1 : (m.map (plc p))[n]? = some (f n) := by rw [hmf, List.getElem?_map, List.getElem?_range lt]; rfl
      have a2 : (m.map (plc p))[0]? = some (f 0) := by rw [hmf, List.getElem?_map, List.getElem?_range (by omega)]; rfl
      have p0 := c.per 0
      rw [Nat.zero_add] at p0
      rw [p0] at a1
      have := (List.getElem?_inj (by rw [List.length_map]; exact lt) nd).mp (a1.trans a2.symm)
      omega
    have hln : m.length = n := by
      refine Nat.le_antisymm hle (Nat.le_of_not_lt fun lt => ?_)
      have := c.inj lt (by omega) fs
      omega
    have b0 : b = 0 := by
      have p0 := c.per 0
      rw [Nat.zero_add, ← hln] at p0
      rw [p0] at fs
      exact (c.inj n0 (by omega) fs).symm
    subst b0
    unfold lpOf
    rw [e']
    refine ⟨?_, rfl⟩
    show some ((m ++ [s]).dropLast.map (plc p)) = _
    rw [List.dropLast_concat, hmf, hln, ← c.eq]
/-- the loop's turn that begins with its least stop -/
def canon (p h : Nat) (os : List Od) (l : List (Nat × Nat)) : List (Nat × Nat) := (lpOf p h os (minS (l.headD (0, 0)) l.tail)).getD []
theorem CycF.turns {p n : Nat} {os : List Od} {l : List (Nat × Nat)} {f : Nat → Nat × Nat} (c : CycF p os l f n) : ∀ i, ∃ l', CycF p os l' (fun j => f (i + j)) n ∧ ∀ x, x ∈ l' ↔ x ∈ l
  | 0 => ⟨l, by simpa using c, fun _ => Iff.rfl⟩
  | i + 1 => by
    obtain ⟨l', c', h'⟩ := c.turns i
    refine ⟨_, ?_, fun x => turn_mem.trans (h' x)⟩
    have := c'.turn
    have e : (fun j => f (i + (j + 1))) = fun j => f (i + 1 + j) := funext fun j => by rw [show i + (j + 1) = i + 1 + j by omega]
    rw [e] at this
    exact this
theorem canon_spec {p h : Nat} {os : List Od} {l : List (Nat × Nat)} (ok : NetOk p h os) (c : Cyc p os l) (hl : ∀ x ∈ l, x.1 < h) :
    Cyc p os (canon p h os l) ∧ hm (canon p h os l) = true ∧ (∀ x, x ∈ canon p h os l ↔ x ∈ l) ∧ ∃ q xs, canon p h os l = q :: xs ∧ lpOf p h os q = some (canon p h os l) ∧ plc p q = q ∧ q.1 < h := by
  obtain ⟨x, xs, rfl⟩ := c.cons
  obtain ⟨f, n, c⟩ := c
  obtain ⟨h1, h2⟩ := minS_spec xs x
  obtain ⟨i, ei⟩ := c.mem.mp h1
  obtain ⟨l', c', hm'⟩ := c.turns i
  have hq : (f (i + 0)).1 < h := by
    rw [Nat.add_zero, ← ei]
    exact hl _ h1
  obtain ⟨g1, _⟩ := cyc_lp ok c' hq
  have ec : canon p h os (x :: xs) = l' := by
    show (lpOf p h os (minS x xs)).getD [] = l'
    rw [ei]
    show (lpOf p h os (f i)).getD [] = l'
    rw [show f i = f (i + 0) from rfl, g1]
    rfl
  rw [ec]
  have h0 : l'[0]? = some (f (i + 0)) := c'.get c'.n0
  obtain ⟨y, ys, rfl⟩ := Cyc.cons ⟨_, _, c'⟩
  obtain rfl : y = f (i + 0) := Option.some.inj h0
  refine ⟨⟨_, _, c'⟩, hm_iff.mpr fun z hz => ?_, hm', _, _, rfl, g1, c.place _, hq⟩
  show ltS z (f i) = false
  rw [← ei]
  exact h2 z ((hm' z).mp hz)
theorem canon_eq {p h : Nat} {os : List Od} {l l' : List (Nat × Nat)} (ok : NetOk p h os) (c : Cyc p os l) (hl : ∀ x ∈ l, x.1 < h) (c' : Cyc p os l') (hm' : hm l' = true) {x : Nat × Nat} (hx : x ∈ l) (hx' : x ∈ l') : canon p h os l = l' := by
  obtain ⟨a1, a2, a3, _⟩ := canon_spec ok c hl
  exact a1.uniq c' a2 hm' ((a3 x).mpr hx) hx'
/-- all letters of a period -/
def lets (p h : Nat) : List (Nat × Nat) := (List.range h).flatMap fun a => (List.range p).map fun d => (a, d)
theorem mem_lets {p h : Nat} {q : Nat × Nat} : q ∈ lets p h ↔ q.1 < h ∧ q.2 < p := by
  unfold lets
  rw [List.mem_flatMap]
  constructor
  · rintro ⟨a, ha, hq⟩
    obtain ⟨d, hd, rfl⟩ := List.mem_map.mp hq
    exact ⟨List.mem_range.mp ha, List.mem_range.mp hd⟩
  · rintro ⟨h1, h2⟩
    exact ⟨q.1, List.mem_range.mpr h1, List.mem_map.mpr ⟨q.2, List.mem_range.mpr h2, rfl⟩⟩
theorem lets_pw {p h : Nat} : (lets p h).Pairwise fun a b => ltS a b = true := by
  unfold lets
  rw [List.pairwise_flatMap]
  refine ⟨fun a _ => ?_, ?_⟩
  · rw [List.pairwise_map]
    exact List.pairwise_lt_range.imp (R := fun x y => x < y) (S := fun d e => ltS (a, d) (a, e) = true) fun {d e} q => ltS_iff.mpr (.inr ⟨rfl, q⟩)
  · refine List.pairwise_lt_range.imp fun {a b} q => ?_
    intro x hx y hy
    obtain ⟨_, _, rfl⟩ := List.mem_map.mp hx
    obtain ⟨_, _, rfl⟩ := List.mem_map.mp hy
    exact ltS_iff.mpr (.inl q)
theorem lets_plc {p h : Nat} {q : Nat × Nat} (hq : q ∈ lets p h) : plc p q = q := by
  obtain ⟨_, h2⟩ := mem_lets.mp hq
  unfold plc
  rw [Nat.mod_eq_of_lt h2]
theorem lets_len {p h : Nat} : (lets p h).length = h * p := by
  unfold lets
  rw [List.length_flatMap]
  simp only [List.length_map, List.length_range]
  induction h with
  | zero => simp
  | succ h ih => rw [List.range_succ, List.map_append, List.sum_append, ih, Nat.succ_mul]; simp
/-- the loop that a letter's least stop begins -/
def goodL (p h : Nat) (os : List Od) (q : Nat × Nat) : Option (List (Nat × Nat)) := match lpOf p h os q with
  | some l => if hm l = true then some l else none
  | none => none
def loopsN (p h : Nat) (os : List Od) : List (List (Nat × Nat)) := (lets p h).filterMap (goodL p h os)
theorem goodL_some {p h : Nat} {os : List Od} {q : Nat × Nat} {l : List (Nat × Nat)} (e : goodL p h os q = some l) : lpOf p h os q = some l ∧ hm l = true := by
  unfold goodL at e
  split at e
  · rename_i l' e'
    split at e
    · rename_i hm'
      obtain rfl := Option.some.inj e
      exact ⟨e', hm'⟩
    · cases e
  · cases e
theorem goodL_of {p h : Nat} {os : List Od} {q : Nat × Nat} {l : List (Nat × Nat)} (e : lpOf p h os q = some l) (hm' : hm l = true) : goodL p h os q = some l := by
  unfold goodL
  rw [e]
  exact if_pos hm'
theorem mem_loopsN {p h : Nat} {os : List Od} (ok : NetOk p h os) {l : List (Nat × Nat)} : l ∈ loopsN p h os ↔ Cyc p os l ∧ hm l = true ∧ ∀ x ∈ l, x.1 < h := by
  unfold loopsN
  rw [List.mem_filterMap]
  constructor
  · rintro ⟨q, hq, e⟩
    obtain ⟨e1, e2⟩ := goodL_some e
    obtain ⟨c, hx, _⟩ := lp_cyc ok (mem_lets.mp hq).1 e1
    exact ⟨c, e2, hx⟩
  · rintro ⟨⟨f, n, c⟩, hm', hx⟩
    have h0 : f 0 ∈ l := c.mem.mpr ⟨0, rfl⟩
    have hp : (f 0).2 < p := by
      have := c.place 0
      have e : (f 0).2 % p = (f 0).2 := congrArg Prod.snd this
      rw [← e]
      exact Nat.mod_lt _ ok.p1
    exact ⟨f 0, mem_lets.mpr ⟨hx _ h0, hp⟩, goodL_of (cyc_lp ok c (hx _ h0)).1 hm'⟩
theorem loopsN_pw {p h : Nat} {os : List Od} (ok : NetOk p h os) : (loopsN p h os).Pairwise fun a b => ltS (a.headD (0, 0)) (b.headD (0, 0)) = true := by
  unfold loopsN
  rw [List.pairwise_filterMap]
  refine List.Pairwise.imp_of_mem ?_ (lets_pw (p := p) (h := h))
  intro a b ha hb q l el l' el'
  obtain ⟨_, _, xs, rfl⟩ := lp_cyc ok (mem_lets.mp ha).1 (goodL_some el).1
  obtain ⟨_, _, ys, rfl⟩ := lp_cyc ok (mem_lets.mp hb).1 (goodL_some el').1
  show ltS (plc p a) (plc p b) = true
  rw [lets_plc ha, lets_plc hb]
  exact q
theorem loopsN_nd {p h : Nat} {os : List Od} (ok : NetOk p h os) : (loopsN p h os).Nodup := (loopsN_pw ok).imp fun {a b} q e => by
  subst e
  have := ltS_iff.mp q
  omega
/-- what the law finds, letter by letter -/
def fndF (p h : Nat) (os : List Od) (acc : List (List (Nat × Nat))) (q : Nat × Nat) : List (List (Nat × Nat)) := match rawOf p h os q with
  | none => acc
  | some l => if canon p h os l ∈ acc then acc else acc ++ [canon p h os l]
def fnd (p h : Nat) (os : List Od) (qs : List (Nat × Nat)) : List (List (Nat × Nat)) := qs.foldl (fndF p h os) []
theorem fnd_snoc {p h : Nat} {os : List Od} {qs : List (Nat × Nat)} {q : Nat × Nat} : fnd p h os (qs ++ [q]) = fndF p h os (fnd p h os qs) q := by
  unfold fnd
  rw [List.foldl_append]
  rfl
theorem fndF_mem {p h : Nat} {os : List Od} {acc : List (List (Nat × Nat))} {q : Nat × Nat} {l : List (Nat × Nat)} : l ∈ fndF p h os acc q ↔ l ∈ acc ∨ ∃ r, rawOf p h os q = some r ∧ canon p h os r = l := by
  unfold fndF
  cases e : rawOf p h os q with
  | none => simp
  | some r =>
    show l ∈ (if canon p h os r ∈ acc then acc else acc ++ [canon p h os r]) ↔ _
    split
    · rename_i hm'
      constructor
      · exact .inl
      · rintro (a | ⟨r', e', rfl⟩)
        · exact a
        · cases e'
          exact hm'
    · rw [List.mem_append, List.mem_singleton]
      constructor
      · rintro (a | a)
        · exact .inl a
        · exact .inr ⟨r, rfl, a.symm⟩
      · rintro (a | ⟨r', e', a⟩)
        · exact .inl a
        · cases e'
          exact .inr a.symm
theorem fndF_nd {p h : Nat} {os : List Od} {acc : List (List (Nat × Nat))} {q : Nat × Nat} (nd : acc.Nodup) : (fndF p h os acc q).Nodup := by
  unfold fndF
  split
  · exact nd
  · rename_i r _
    split
    · exact nd
    · rename_i hno
      rw [List.nodup_append]
      refine ⟨nd, List.nodup_cons.mpr ⟨by simp, List.nodup_nil⟩, fun a ha b hb e => ?_⟩
      rw [List.mem_singleton.mp hb] at e
      exact hno (e ▸ ha)
theorem fnd_spec {p h : Nat} {os : List Od} (qs : List (Nat × Nat)) : ∀ acc : List (List (Nat × Nat)), acc.Nodup → (qs.foldl (fndF p h os) acc).Nodup ∧ ∀ l, l ∈ qs.foldl (fndF p h os) acc ↔ l ∈ acc ∨ ∃ q ∈ qs, ∃ r, rawOf p h os q = some r ∧ canon p h os r = l := by
  induction qs with
  | nil => exact fun acc nd => ⟨nd, fun l => by simp⟩
  | cons q qs ih =>
    intro acc nd
    obtain ⟨h1, h2⟩ := ih (fndF p h os acc q) (fndF_nd nd)
    refine ⟨h1, fun l => ?_⟩
    rw [List.foldl_cons, h2, fndF_mem]
    constructor
    · rintro ((a | a) | ⟨q', hq', a⟩)
      · exact .inl a
      · exact .inr ⟨q, List.mem_cons_self, a⟩
      · exact .inr ⟨q', List.mem_cons_of_mem _ hq', a⟩
    · rintro (a | ⟨q', hq', a⟩)
      · exact .inl (.inl a)
      · rcases List.mem_cons.mp hq' with rfl | z
        · exact .inl (.inr a)
        · exact .inr ⟨q', z, a⟩
theorem fnd_perm {p h : Nat} {os : List Od} (ok : NetOk p h os) : (fnd p h os (lets p h)).Perm (loopsN p h os) := by
  obtain ⟨h1, h2⟩ := fnd_spec (p := p) (h := h) (os := os) (lets p h) [] List.nodup_nil
  refine (List.perm_ext_iff_of_nodup h1 (loopsN_nd ok)).mpr fun l => ?_
  rw [h2]
  constructor
  · rintro (a | ⟨q, hq, r, e, rfl⟩)
    · cases a
    · obtain ⟨c, hx, _⟩ := raw_cycF ok (mem_lets.mp hq).1 e
      obtain ⟨a1, a2, a3, _⟩ := canon_spec ok c hx
      exact (mem_loopsN ok).mpr ⟨a1, a2, fun x hx' => hx x ((a3 x).mp hx')⟩
  · intro hl
    obtain ⟨c, hm', hx⟩ := (mem_loopsN ok).mp hl
    obtain ⟨q, hq, e⟩ := List.mem_filterMap.mp hl
    obtain ⟨x, xs, rfl⟩ := c.cons
    exact .inr ⟨q, hq, _, lp_raw (goodL_some e).1, canon_eq ok c hx c hm' List.mem_cons_self List.mem_cons_self⟩
/-- loops that share a stop are one -/
theorem loopsN_share {p h : Nat} {os : List Od} (ok : NetOk p h os) {l l' : List (Nat × Nat)} {x : Nat × Nat} (hl : l ∈ loopsN p h os) (hl' : l' ∈ loopsN p h os) (hx : x ∈ l) (hx' : x ∈ l') : l = l' := by
  obtain ⟨c, m1, _⟩ := (mem_loopsN ok).mp hl
  obtain ⟨c', m2, _⟩ := (mem_loopsN ok).mp hl'
  exact c.uniq c' m1 m2 hx hx'
/-! ### pairs as data: their order and their least -/
section
open PySem.W (alike alikeAll dataLt minD AlikeAll)
theorem plD_alike (s t : Nat × Nat) : alike (plD s) (plD t) = true := by
  simp [plD, alike, alikeAll]
theorem plDs_alike (l : List (Nat × Nat)) : AlikeAll (l.map plD) := by
  refine ⟨fun x hx y hy => ?_, fun x hx => ?_⟩
  · obtain ⟨s, _, rfl⟩ := List.mem_map.mp hx
    obtain ⟨t, _, rfl⟩ := List.mem_map.mp hy
    exact plD_alike s t
  · obtain ⟨s, _, rfl⟩ := List.mem_map.mp hx
    intro e
    cases e
theorem int_eqv (a b : Int) : PyData.eqv (.int a) (.int b) = decide (a = b) := by
  by_cases h : a = b <;> simp [PyData.eqv, h]
theorem dataLt_pl (s t : Nat × Nat) : dataLt (plD s) (plD t) = ltS s t := by
  unfold plD ltS
  rw [PySem.W.dataLt_tuple]
  by_cases e1 : s.1 = t.1
  · rw [if_pos e1, PySem.W.dataLt_all_yes (by simp [alike]) (by rw [int_eqv, e1]; exact decide_eq_true rfl)]
    by_cases e2 : s.2 = t.2
    · rw [PySem.W.dataLt_all_yes (by simp [alike]) (by rw [int_eqv, e2]; exact decide_eq_true rfl), e2, decide_eq_false (Nat.lt_irrefl _)]
      simp [PySem.W.keyToksAll, PyProof.Rows.lexLt]
      rfl
    · rw [PySem.W.dataLt_all_no (by simp [alike]) (by rw [int_eqv]; exact decide_eq_false (by omega)), PySem.W.dataLt_int]
      by_cases c : s.2 < t.2
      · rw [decide_eq_true c, decide_eq_true (by omega)]
      · rw [decide_eq_false c, decide_eq_false (by omega)]
  · rw [if_neg e1, PySem.W.dataLt_all_no (by simp [alike]) (by rw [int_eqv]; exact decide_eq_false (by omega)), PySem.W.dataLt_int]
    by_cases c : s.1 < t.1
    · rw [decide_eq_true c, decide_eq_true (by omega)]
    · rw [decide_eq_false c, decide_eq_false (by omega)]
theorem minD_pl : ∀ (xs : List (Nat × Nat)) (x : Nat × Nat), minD (plD x) (xs.map plD) = plD (minS x xs)
  | [], x => rfl
  | y :: ys, x => by
    show minD (if dataLt (plD y) (plD x) = true then plD y else plD x) (ys.map plD) = plD (minS (if ltS y x then y else x) ys)
    rw [dataLt_pl]
    by_cases c : ltS y x = true
    · rw [if_pos c, if_pos c]
      exact minD_pl ys y
    · rw [if_neg c, if_neg c]
      exact minD_pl ys x
theorem plD_inj {s t : Nat × Nat} (e : plD s = plD t) : s = t := by
  have h := plD_eqv s t
  rw [← e] at h
  rw [PySem.SeqAt.eqv_refl _ (PySem.SeqAt.canLay_of_shaped (plD_shaped s))] at h
  exact of_decide_eq_true h.symm
/-- min of a list of stops -/
theorem min_depth (x : Nat × Nat) (xs : List (Nat × Nat)) : PyData.depthAll (plD x :: xs.map plD) ≤ 60 := by
  have := plDs_depth (x :: xs)
  rw [List.map_cons] at this
  omega
theorem min_at {H : Hp} {ws : List V} {x : Nat × Nat} {xs : List (Nat × Nat)} {i : Nat} {v : V} (hw : Paired (StopAt H) ws (x :: xs)) (hi : ws[i]? = some v) (he : (plD x :: xs.map plD)[i]? = some (minD (plD x) (xs.map plD))) : StopAt H v (minS x xs) := by
  have hil : i < (x :: xs).length := by rw [← hw.length]; exact (List.getElem?_eq_some_iff.mp hi).1
  obtain ⟨v', hv', hs⟩ := Paired.get? (i := i) hw (List.getElem?_eq_getElem hil)
  obtain rfl : v' = v := Option.some.inj (hv'.symm.trans hi)
  have e2 : ((x :: xs).map plD)[i]? = some (plD (x :: xs)[i]) := by rw [List.getElem?_map, List.getElem?_eq_getElem hil]; rfl
  rw [List.map_cons, he, minD_pl] at e2
  rw [plD_inj (Option.some.inj e2)]
  exact hs
end
/-! ### where letters are delivered: plain mathematics -/
def dst (p h : Nat) (os : List Od) (st : Nat × Nat) : Option (Nat × Nat) := destOf (folR p h os st)
theorem stp_none_add {p : Nat} {os : List Od} {i : Nat} {st : Nat × Nat} (e : stp p os i st = none) (k : Nat) : stp p os (i + k) st = none := by
  rw [stp_add, e]
  rfl
theorem stp_succ_none {p : Nat} {os : List Od} {j : Nat} {st c : Nat × Nat} (h1 : stp p os j st = some c) (h2 : hop p os c = none) : stp p os (j + 1) st = none := by
  show (stp p os j st).bind (hop p os) = none
  rw [h1]
  exact h2
theorem dst_iff {p h : Nat} {os : List Od} {st c : Nat × Nat} (ok : NetOk p h os) (hh : st.1 < h) : dst p h os st = some c ↔ ∃ j, stp p os j st = some c ∧ hop p os c = none := by
  unfold dst
  rcases folR_cases ok hh with ⟨l, e, hne, hl, _⟩ | ⟨m, s, b, t, k, e, hl, hb, hs, hk, _⟩
  · rw [e]
    show l.getLast? = some c ↔ _
    have hlen : 0 < l.length := List.length_pos_iff.mpr hne
    have hend : stp p os l.length st = none := by
      rw [← hl]
      exact List.getElem?_eq_none_iff.mpr (Nat.le_refl _)
    have hlast : l.getLast? = stp p os (l.length - 1) st := by rw [← hl, List.getLast?_eq_getElem?]
    rw [hlast]
    constructor
    · intro h1
      refine ⟨_, h1, ?_⟩
      have e2 : (stp p os (l.length - 1) st).bind (hop p os) = none := by
        have e1 : stp p os (l.length - 1 + 1) st = none := by rw [Nat.sub_add_cancel hlen]; exact hend
        exact e1
      rw [h1] at e2
      exact e2
    · rintro ⟨j, h1, h2⟩
      have e3 := stp_succ_none h1 h2
      have hj : j < l.length := by
        rcases Nat.lt_or_ge j l.length with z | z
        · exact z
        · have := stp_none_add hend (j - l.length)
          rw [show l.length + (j - l.length) = j by omega, h1] at this
          cases this
      have hj2 : ¬ j + 1 < l.length := fun z => by
        have := hl (j + 1)
        rw [e3, List.getElem?_eq_getElem z] at this
        cases this
      rw [show l.length - 1 = j by omega]
      exact h1
  · rw [e]
    show (none : Option (Nat × Nat)) = some c ↔ _
    constructor
    · intro z
      cases z
    · rintro ⟨j, h1, h2⟩
      exfalso
      have hbl : b < m.length := (List.getElem?_eq_some_iff.mp hb).1
      have g1 : stp p os b st = some t := by
        rw [← hl b (Nat.le_of_lt hbl), List.getElem?_append_left hbl]
        exact hb
      have g2 : stp p os (b + (m.length - b)) st = some (shf (p * k) t) := by
        rw [show b + (m.length - b) = m.length by omega, ← hl _ (Nat.le_refl _), List.getElem?_append_right (Nat.le_refl _), Nat.sub_self, hs]
        rfl
      have hr := stp_round (N := m.length - b) (k0 := k) rfl g1 g2 (j + 1) 0
      have n1 : 1 ≤ m.length - b := by omega
      have n2 : 1 * (j + 1) ≤ (m.length - b) * (j + 1) := Nat.mul_le_mul_right _ n1
      have e3 := stp_none_add (stp_succ_none h1 h2) (b + 0 + (m.length - b) * (j + 1) - (j + 1))
      rw [show j + 1 + (b + 0 + (m.length - b) * (j + 1) - (j + 1)) = b + 0 + (m.length - b) * (j + 1) by omega, hr, show stp p os (b + 0) st = some t from g1] at e3
      cases e3
theorem dst_end {p h : Nat} {os : List Od} {st : Nat × Nat} (ok : NetOk p h os) (hh : st.1 < h) (e : hop p os st = none) : dst p h os st = some st := (dst_iff ok hh).mpr ⟨0, rfl, e⟩
theorem dst_stp {p h : Nat} {os : List Od} {st s : Nat × Nat} {i : Nat} (ok : NetOk p h os) (hh : st.1 < h) (e : stp p os i st = some s) : dst p h os st = dst p h os s := by
  have hs := pst_house ok hh i e
  apply Option.ext
  intro c
  rw [dst_iff ok hh, dst_iff ok hs]
  constructor
  · rintro ⟨j, h1, h2⟩
    by_cases z : i ≤ j
    · refine ⟨j - i, ?_, h2⟩
      rw [show j = i + (j - i) by omega, stp_add, e] at h1
      exact h1
    · have e3 := stp_none_add (stp_succ_none h1 h2) (i - (j + 1))
      rw [show j + 1 + (i - (j + 1)) = i by omega, e] at e3
      cases e3
  · rintro ⟨j, h1, h2⟩
    refine ⟨i + j, ?_, h2⟩
    rw [stp_add, e]
    exact h1
theorem hop_shf_none {p : Nat} {os : List Od} {k : Nat} {s : Nat × Nat} : hop p os (shf (p * k) s) = none ↔ hop p os s = none := by
  rw [hop_shf, Option.map_eq_none_iff]
theorem dst_shf {p h : Nat} {os : List Od} {st : Nat × Nat} {k : Nat} (ok : NetOk p h os) (hh : st.1 < h) : dst p h os (shf (p * k) st) = (dst p h os st).map (shf (p * k)) := by
  apply Option.ext
  intro c
  rw [dst_iff ok (show (shf (p * k) st).1 < h from hh), Option.map_eq_some_iff]
  constructor
  · rintro ⟨j, h1, h2⟩
    rw [stp_shf] at h1
    obtain ⟨c', h3, rfl⟩ := Option.map_eq_some_iff.mp h1
    exact ⟨c', (dst_iff ok hh).mpr ⟨j, h3, hop_shf_none.mp h2⟩, rfl⟩
  · rintro ⟨c', h1, rfl⟩
    obtain ⟨j, h3, h4⟩ := (dst_iff ok hh).mp h1
    exact ⟨j, by rw [stp_shf, h3]; rfl, hop_shf_none.mpr h4⟩
theorem dst_cycle {p h : Nat} {os : List Od} {st : Nat × Nat} {i k : Nat} (ok : NetOk p h os) (hh : st.1 < h) (e : stp p os i st = some (shf (p * k) st)) (hk : 0 < p * k) : dst p h os st = none := by
  have h1 := dst_stp ok hh e
  rw [dst_shf ok hh] at h1
  cases q : dst p h os st with
  | none => rfl
  | some c =>
    rw [q] at h1
    have h2 : c.2 = c.2 + p * k := congrArg Prod.snd (Option.some.inj h1)
    omega
theorem dst_le {p h : Nat} {os : List Od} {st c : Nat × Nat} (ok : NetOk p h os) (hh : st.1 < h) (e : dst p h os st = some c) : st.2 ≤ c.2 := by
  obtain ⟨j, h1, _⟩ := (dst_iff ok hh).mp e
  cases j with
  | zero =>
    cases h1
    exact Nat.le_refl _
  | succ j => exact Nat.le_of_lt (stp_more (i := 0) (k := j) ok rfl (by rw [Nat.zero_add]; exact h1))
theorem dst_house {p h : Nat} {os : List Od} {st c : Nat × Nat} (ok : NetOk p h os) (hh : st.1 < h) (e : dst p h os st = some c) : c.1 < h := by
  obtain ⟨j, h1, _⟩ := (dst_iff ok hh).mp e
  exact pst_house ok hh j h1
theorem dst_plc {p h : Nat} {os : List Od} {st : Nat × Nat} (ok : NetOk p h os) (hh : st.1 < h) : dst p h os st = (dst p h os (plc p st)).map (shf (p * (st.2 / p))) := by
  rw [← dst_shf ok (show (plc p st).1 < h from hh), ← shf_plc]
/-- the goal of a letter, and how many days it takes -/
def wayOf (p h : Nat) (os : List Od) (s : Nat × Nat) : Option (Nat × Nat) := (dst p h os s).map fun g => (g.1, g.2 - s.2)
theorem wayOf_dst {p h : Nat} {os : List Od} {s : Nat × Nat} (ok : NetOk p h os) (hh : s.1 < h) : dst p h os s = (wayOf p h os s).map fun g => (g.1, s.2 + g.2) := by
  unfold wayOf
  rw [Option.map_map]
  cases q : dst p h os s with
  | none => rfl
  | some c =>
    have := dst_le ok hh q
    show some c = some (c.1, s.2 + (c.2 - s.2))
    rw [show s.2 + (c.2 - s.2) = c.2 by omega]
theorem wayOf_plc {p h : Nat} {os : List Od} {s : Nat × Nat} (ok : NetOk p h os) (hh : s.1 < h) : wayOf p h os (plc p s) = wayOf p h os s := by
  unfold wayOf
  rw [dst_plc ok hh, Option.map_map]
  cases q : dst p h os (plc p s) with
  | none => rfl
  | some c =>
    show some (c.1, c.2 - s.2 % p) = some (c.1, c.2 + p * (s.2 / p) - s.2)
    have := Nat.div_add_mod s.2 p
    rw [show c.2 + p * (s.2 / p) - s.2 = c.2 - s.2 % p by omega]
theorem dst_way {p h : Nat} {os : List Od} {s : Nat × Nat} (ok : NetOk p h os) (hh : s.1 < h) : dst p h os s = (wayOf p h os (plc p s)).map fun g => (g.1, s.2 + g.2) := by
  rw [wayOf_plc ok hh]
  exact wayOf_dst ok hh
/-- the table of ways: keys and values -/
def wkv (p : Nat) (ks : List (Nat × Nat)) (f : Nat × Nat → V) : List (List Key × V) := ks.map fun s => (keyOf p s, f s)
def setF (f : Nat × Nat → V) (q : Nat × Nat) (v : V) : Nat × Nat → V := fun s => if s = q then v else f s
theorem key_plc {p : Nat} {s : Nat × Nat} : keyOf p (plc p s) = keyOf p s := keyOf_eq.mpr (plc_plc s)
theorem key_at {p : Nat} {q s : Nat × Nat} (hq : plc p q = q) : keyOf p q = keyOf p s ↔ q = plc p s := by
  rw [keyOf_eq, hq]
theorem wkv_val {p : Nat} {f : Nat × Nat → V} {s : Nat × Nat} : ∀ {ks : List (Nat × Nat)}, (∀ q ∈ ks, plc p q = q) → valV (wkv p ks f) (keyOf p s) = if plc p s ∈ ks then some (f (plc p s)) else none
  | [], _ => rfl
  | q :: ks, h => by
    have hq := h q List.mem_cons_self
    have ih := wkv_val (p := p) (f := f) (s := s) fun r hr => h r (List.mem_cons_of_mem _ hr)
    by_cases c : q = plc p s
    · rw [if_pos (by rw [c]; exact List.mem_cons_self)]
      show valV ((keyOf p q, f q) :: wkv p ks f) (keyOf p s) = _
      rw [valV_pos ((key_at hq).mpr c), c]
    · show valV ((keyOf p q, f q) :: wkv p ks f) (keyOf p s) = _
      rw [valV_neg fun z => c ((key_at hq).mp z), ih]
      by_cases m : plc p s ∈ ks
      · rw [if_pos m, if_pos (List.mem_cons_of_mem _ m)]
      · rw [if_neg m, if_neg fun z => (List.mem_cons.mp z).elim (fun e => c e.symm) m]
theorem wkv_ext {p : Nat} {f g : Nat × Nat → V} {ks : List (Nat × Nat)} (h : ∀ q ∈ ks, f q = g q) : wkv p ks f = wkv p ks g := by
  unfold wkv
  exact List.map_congr_left fun q hq => by rw [h q hq]
theorem wkv_new {p : Nat} {f : Nat × Nat → V} {s : Nat × Nat} {v : V} {ks : List (Nat × Nat)} (h : ∀ q ∈ ks, plc p q = q) (hn : plc p s ∉ ks) : putK (wkv p ks f) (keyOf p s) v = wkv p (ks ++ [plc p s]) (setF f (plc p s) v) := by
  rw [Cp.putK_new (by rw [wkv_val h, if_neg hn])]
  show _ = wkv p (ks ++ [plc p s]) _
  unfold wkv
  rw [List.map_append]
  congr 1
  · exact List.map_congr_left fun q hq => by
      show (keyOf p q, f q) = (keyOf p q, if q = plc p s then v else f q)
      rw [if_neg fun e : q = plc p s => hn (e ▸ hq)]
  · show [(keyOf p s, v)] = [(keyOf p (plc p s), setF f (plc p s) v (plc p s))]
    unfold setF
    rw [if_pos rfl, key_plc]
theorem wkv_old {p : Nat} {f : Nat × Nat → V} {s : Nat × Nat} {v : V} {ks : List (Nat × Nat)} (h : ∀ q ∈ ks, plc p q = q) (hn : plc p s ∈ ks) : putK (wkv p ks f) (keyOf p s) v = wkv p ks (setF f (plc p s) v) := by
  unfold putK
  have e : ((wkv p ks f).any fun kv => decide (kv.1 = keyOf p s)) = true := by
    rw [valV_any, wkv_val h, if_pos hn]
    rfl
  rw [if_pos e]
  unfold wkv
  rw [List.map_map]
  refine List.map_congr_left fun q hq => ?_
  show (if keyOf p q = keyOf p s then (keyOf p q, v) else (keyOf p q, f q)) = (keyOf p q, setF f (plc p s) v q)
  unfold setF
  by_cases c : q = plc p s
  · rw [if_pos ((key_at (h q hq)).mpr c), if_pos c]
  · rw [if_neg fun z => c ((key_at (h q hq)).mp z), if_neg c]
/-! ### comprehensions that choose from a range, or from a list of numbers -/
theorem take_filter {α : Type} {f : α → Bool} {l : List α} {i : Nat} {q : α} (e : l[i]? = some q) : (l.take (i + 1)).filter f = (l.take i).filter f ++ (if f q = true then [q] else []) := by
  rw [List.take_add_one, e, List.filter_append]
  by_cases c : f q = true <;> simp [c]
theorem nints_len {l : List Nat} : (nints l).length = l.length := by
  unfold nints
  rw [List.length_map]
theorem nints_app {l m : List Nat} : nints (l ++ m) = nints l ++ nints m := by
  unfold nints
  rw [List.map_append]
theorem nints_V {l : List Nat} : nints l = (l.map fun (n : Nat) => (n : Int)).map V.int := by
  unfold nints
  rw [List.map_map]
  rfl
theorem nints_get {l : List Nat} {i : Nat} {v : V} (h : (nints l)[i]? = some v) : ∃ n, l[i]? = some n ∧ v = .int (n : Nat) := by
  unfold nints at h
  rw [List.getElem?_map, Option.map_eq_some_iff] at h
  obtain ⟨n, h1, h2⟩ := h
  exact ⟨n, h1, h2.symm⟩
theorem lc_rfilt {m : Int} {n v : Nat} {tt : TT} {σ : L2.St} {H1 : Hp} {D : Addr} {Qd : Hp → Prop} (f : Nat → Bool) (hm : m.toNat = n) (hn : n ≤ 1000)
    (hw : ∀ x, wipe ((wipe σ [v]).set v x) [v] = wipe σ [v]) (hv : ∀ x, ((wipe σ [v]).set v x)[v]? = some x)
    (ht : ∀ (i : Nat) l (Q : Bool → Hp → Prop), i < n → Q (f i) (upd H1 D (.lst l)) → tt ((wipe σ [v]).set v (some (.int (i : Nat)))) (upd H1 D (.lst l)) Q)
    (hd : Qd (upd H1 D (.lst (nints ((List.range n).filter f))))) :
    ∃ W : Nat → Nat → Hp → Prop, (∃ k, W 0 k (upd H1 D (.lst []))) ∧ ∀ i k H, W i k H →
      ((Itr 0 m.toNat).stop i H ∧ Qd H) ∨ ((Itr 0 m.toNat).go i H ∧ ∃ Nx : Hp → Prop, (∀ H', Nx H' → ∃ k', k' < k ∧ W (i + 1) k' H') ∧ ∀ x H', (Itr 0 m.toNat).yld i H x H' → gName v x (wipe σ [v]) H' fun σ2 H2 => wipe σ2 [v] = wipe σ [v] ∧ tt σ2 H2 fun b H3 =>
        if b = true then tVar v σ2 H3 fun y H4 => ∃ acc, H4 D = some (.lst acc) ∧ acc.length < sizeLine ∧ Nx (upd H4 D (.lst (acc ++ [y]))) else Nx H3) := by
  subst hm
  refine lc_range (lo := 0) (n := m.toNat) (fun i H' => H' = upd H1 D (.lst (nints ((List.range i).filter f)))) rfl ?_ (fun H' e => by rw [e]; exact hd)
  rintro i H' hi rfl
  rw [show (0 : Int) + (i : Int) = (i : Nat) from Int.zero_add _]
  refine ⟨hw _, ht i _ _ hi ?_⟩
  rw [filter_range_succ']
  by_cases c : f i = true
  · rw [c, if_pos rfl, if_pos rfl]
    refine ⟨_, hv _, _, upd_same, ?_, ?_⟩
    · rw [nints_len]
      exact small1000 (Nat.le_trans (List.length_filter_le _ _) (by rw [List.length_range]; omega))
    · rw [upd_upd, nints_app]
      rfl
  · rw [Bool.eq_false_iff.mpr c, if_neg Bool.false_ne_true, if_neg Bool.false_ne_true, List.append_nil]
theorem lc_lfilt {K : PySem.W.Frag} {a : Addr} {l : List Nat} {v : Nat} {tt : TT} {σ : L2.St} {H1 : Hp} {D : Addr} {Qd : Hp → Prop} (f : Nat → Bool) (hn : l.length ≤ 1000) (ha : H1 a = some (.lst (nints l))) (naD : a ≠ D)
    (hw : ∀ x, wipe ((wipe σ [v]).set v x) [v] = wipe σ [v]) (hv : ∀ x, ((wipe σ [v]).set v x)[v]? = some x)
    (ht : ∀ (i k : Nat) us (Q : Bool → Hp → Prop), l[i]? = some k → Q (f k) (upd H1 D (.lst us)) → tt ((wipe σ [v]).set v (some (.int (k : Nat)))) (upd H1 D (.lst us)) Q)
    (hd : Qd (upd H1 D (.lst (nints (l.filter f))))) :
    ∃ W : Nat → Nat → Hp → Prop, (∃ k, W 0 k (upd H1 D (.lst []))) ∧ ∀ i k H, W i k H →
      ((Itl K a).stop i H ∧ Qd H) ∨ ((Itl K a).go i H ∧ ∃ Nx : Hp → Prop, (∀ H', Nx H' → ∃ k', k' < k ∧ W (i + 1) k' H') ∧ ∀ x H', (Itl K a).yld i H x H' → gName v x (wipe σ [v]) H' fun σ2 H2 => wipe σ2 [v] = wipe σ [v] ∧ tt σ2 H2 fun b H3 =>
        if b = true then tVar v σ2 H3 fun y H4 => ∃ acc, H4 D = some (.lst acc) ∧ acc.length < sizeLine ∧ Nx (upd H4 D (.lst (acc ++ [y]))) else Nx H3) := by
  refine lc_list (K := K) (a := a) (xs := nints l) (fun i H' => H' = upd H1 D (.lst (nints ((l.take i).filter f)))) rfl (fun i H' _ e => by rw [e]; exact SqL.of ((upd_ne naD).trans ha)) ?_ (fun H' e => by
    rw [e, nints_len, List.take_of_length_le (Nat.le_refl _)]
    exact hd)
  rintro i x H' hi rfl
  obtain ⟨k, hk, rfl⟩ := nints_get hi
  refine ⟨hw _, ht i k _ _ hk ?_⟩
  have il := (List.getElem?_eq_some_iff.mp hk).1
  rw [take_filter hk]
  by_cases c : f k = true
  · rw [c, if_pos rfl, if_pos rfl]
    refine ⟨_, hv _, _, upd_same, ?_, ?_⟩
    · rw [nints_len]
      exact small1000 (Nat.le_trans (List.length_filter_le _ _) (by rw [List.length_take]; omega))
    · rw [upd_upd, nints_app]
      rfl
  · rw [Bool.eq_false_iff.mpr c, if_neg Bool.false_ne_true, if_neg Bool.false_ne_true, List.append_nil]
theorem lc_rfiltS {m : Int} {n v : Nat} {tt : TT} {σ : L2.St} {H1 : Hp} {D : Addr} {Qd : Hp → Prop} (f : Nat → Bool) (hm : m.toNat = n) (hn : n ≤ 1000) (nD : H1 D = none)
    (hw : ∀ x, wipe ((wipe σ [v]).set v x) [v] = wipe σ [v]) (hv : ∀ x, ((wipe σ [v]).set v x)[v]? = some x)
    (ht : ∀ (i : Nat) H2 (Q : Bool → Hp → Prop), i < n → Same H1 H2 → (∀ H3, Same H2 H3 → Q (f i) H3) → tt ((wipe σ [v]).set v (some (.int (i : Nat)))) H2 Q)
    (hd : ∀ H', Same H1 H' → H' D = some (.lst (nints ((List.range n).filter f))) → Qd H') :
    ∃ W : Nat → Nat → Hp → Prop, (∃ k, W 0 k (upd H1 D (.lst []))) ∧ ∀ i k H, W i k H →
      ((Itr 0 m.toNat).stop i H ∧ Qd H) ∨ ((Itr 0 m.toNat).go i H ∧ ∃ Nx : Hp → Prop, (∀ H', Nx H' → ∃ k', k' < k ∧ W (i + 1) k' H') ∧ ∀ x H', (Itr 0 m.toNat).yld i H x H' → gName v x (wipe σ [v]) H' fun σ2 H2 => wipe σ2 [v] = wipe σ [v] ∧ tt σ2 H2 fun b H3 =>
        if b = true then tVar v σ2 H3 fun y H4 => ∃ acc, H4 D = some (.lst acc) ∧ acc.length < sizeLine ∧ Nx (upd H4 D (.lst (acc ++ [y]))) else Nx H3) := by
  subst hm
  refine lc_range (lo := 0) (n := m.toNat) (fun i H' => Same H1 H' ∧ H' D = some (.lst (nints ((List.range i).filter f)))) ⟨same_upd nD, upd_same⟩ ?_ (fun H' e => hd H' e.1 e.2)
  rintro i H' hi ⟨s', hD⟩
  rw [show (0 : Int) + (i : Int) = (i : Nat) from Int.zero_add _]
  refine ⟨hw _, ht i _ _ hi s' fun H3 s3 => ?_⟩
  have hD3 := s3 _ _ hD
  rw [filter_range_succ']
  by_cases c : f i = true
  · rw [c, if_pos rfl, if_pos rfl]
    refine ⟨_, hv _, _, hD3, ?_, fun b o e => ?_, ?_⟩
    · rw [nints_len]
      exact small1000 (Nat.le_trans (List.length_filter_le _ _) (by rw [List.length_range]; omega))
    · rw [upd_ne (ne_of_none e nD)]
      exact s3 _ _ (s' _ _ e)
    · rw [upd_same, nints_app]
      rfl
  · rw [Bool.eq_false_iff.mpr c, if_neg Bool.false_ne_true, if_neg Bool.false_ne_true, List.append_nil]
    exact ⟨s'.trans s3, hD3⟩
/-! ### results and lists of stops as data -/
section
open PySem.W (alike alikeAll dataLt AllAlike Sortable dataLe)
theorem plD_depth (b : Nat × Nat) : (plD b).depth ≤ 60 := by
  have e : (plD b).depth = 1 := by simp [plD, PyData.depth, PyData.depthAll]
  omega
def optD : Option (Nat × Nat) → PyData
  | none => .none
  | some s => plD s
theorem opt_dp {K : PySem.W.Frag} {H : Hp} {v : V} {o : Option (Nat × Nat)} (h : OptStop H v o) : Dp K H v (optD o) := by
  cases o with
  | none =>
    obtain rfl : v = .non := h
    exact .non
  | some s => exact stop_dp h
theorem optD_shaped (o : Option (Nat × Nat)) : PySem.SeqAt.shaped (optD o) = true := by
  cases o with
  | none => rfl
  | some s => exact plD_shaped s
theorem optD_eqv (a b : Option (Nat × Nat)) : PyData.eqv (optD a) (optD b) = decide (a = b) := by
  cases a with
  | none =>
    cases b with
    | none => simp [optD, PyData.eqv]
    | some t => simp [optD, plD, PyData.eqv]
  | some s =>
    cases b with
    | none => simp [optD, plD, PyData.eqv]
    | some t =>
      show PyData.eqv (plD s) (plD t) = _
      rw [plD_eqv]
      by_cases c : s = t
      · rw [decide_eq_true c, decide_eq_true (by rw [c])]
      · rw [decide_eq_false c, decide_eq_false fun e => c (Option.some.inj e)]
theorem plA_eqv : ∀ a b : List (Nat × Nat), PyData.eqvAll (a.map plD) (b.map plD) = decide (a = b)
  | [], [] => by simp [PyData.eqvAll]
  | [], _ :: _ => by simp [PyData.eqvAll]
  | _ :: _, [] => by simp [PyData.eqvAll]
  | x :: xs, y :: ys => by
    rw [List.map_cons, List.map_cons, PySem.W.eqv_all_cons, plD_eqv, plA_eqv xs ys]
    by_cases h1 : x = y <;> by_cases h2 : xs = ys <;> simp [h1, h2]
theorem plL_eqv (a b : List (Nat × Nat)) : PyData.eqv (.list (a.map plD)) (.list (b.map plD)) = decide (a = b) := by
  rw [← plA_eqv]
  simp [PyData.eqv]
theorem pl_any (l : List (Nat × Nat)) (s : Nat × Nat) : ((l.map plD).any fun z => PyData.eqv z (plD s)) = decide (s ∈ l) := by
  induction l with
  | nil => simp
  | cons a l ih =>
    rw [List.map_cons, List.any_cons, ih, plD_eqv]
    by_cases h1 : a = s <;> by_cases h2 : s ∈ l <;> simp [h1, h2]
    exact fun e => h1 e.symm
end
theorem ints_empty (l : List Nat) : (!PyData.eqv (.list ((l.map fun (n : Nat) => (n : Int)).map PyData.int)) (.list [])) = !l.isEmpty := by
  cases l <;> rfl
theorem ints_empty' (l : List Nat) : PyData.eqv (.list ((l.map fun (n : Nat) => (n : Int)).map PyData.int)) (.list []) = l.isEmpty := by
  cases l <;> rfl
theorem dec_le {a b : Nat} : decide ((a : Int) ≤ (b : Int)) = decide (a ≤ b) := by
  by_cases c : a ≤ b
  · rw [decide_eq_true c, decide_eq_true (by omega)]
  · rw [decide_eq_false c, decide_eq_false (by omega)]
theorem dec_intV {a b : Nat} : decide (V.int (a : Int) = V.int (b : Int)) = decide (a = b) := by
  by_cases c : a = b
  · rw [decide_eq_true c, decide_eq_true (by rw [c])]
  · rw [decide_eq_false c, decide_eq_false fun y => c (by have := V.int.inj y; omega)]
def tNotN (t : TE) : TT := tTest (tOp (fun x y H Q => y = V.non ∧ Q (V.bl (!decide (x = .non))) H) t (tC .non))
theorem Paired.app {α β : Type} {F : α → β → Prop} : ∀ {a : List α} {b : List β} {c : List α} {d : List β}, Paired F a b → Paired F c d → Paired F (a ++ c) (b ++ d)
  | _, _, _, _, .nil, q => q
  | _, _, _, _, .cons r t, q => .cons r (Paired.app t q)
/-! ### slices and sums of tuples -/
theorem slA_case {K : PySem.W.Frag} {t0 : Addr} {ts : List V} {lo hi : Option Int} {H : Hp} {Q : VK} (ht : H t0 = some (.tup ts)) (h : ∀ b H', Same H H' → H' b = some (.tup (cutV ts lo hi)) → Q (.ref b) H') : rSlA K (.ref t0) lo hi H Q := by
  refine ⟨t0, ts, rfl, SqT.of ht, fun hf => h t0 H (.refl H) ?_, fun hn p np => h p _ (same_upd np) upd_same⟩
  unfold cutV
  rw [hf.1, hf.2, List.drop_zero, Nat.sub_zero, List.take_of_length_le (Nat.le_refl _)]
  exact ht
theorem catA_case {K : PySem.W.Frag} {a b : Addr} {xs ys : List V} {H : Hp} {Q : VK} (ha : H a = some (.tup xs)) (hb : H b = some (.tup ys)) (hl : xs.length + ys.length ≤ sizeLine) (h : ∀ c H', Same H H' → H' c = some (.tup (xs ++ ys)) → Q (.ref c) H') : rCatA K (.ref a) (.ref b) H Q := by
  refine ⟨a, b, xs, ys, rfl, rfl, SqT.of ha, SqT.of hb, hl, fun e => ?_, fun _ e => ?_, fun _ _ p np => h p _ (same_upd np) upd_same⟩
  · subst e
    exact h b H (.refl H) hb
  · subst e
    rw [List.append_nil] at h
    exact h a H (.refl H) ha
/-- the orders but the k-th -/
def wo (os : List Od) (k : Nat) : List Od := os.take k ++ os.drop (k + 1)
theorem wo_ok {p h k : Nat} {os : List Od} (ok : NetOk p h os) : NetOk p h (wo os k) := by
  refine { ok with len := ?_, ok := fun o ho => ?_ }
  · unfold wo
    rw [List.length_append, List.length_take, List.length_drop]
    have := ok.len
    omega
  · rcases List.mem_append.mp ho with z | z
    · exact ok.ok o (List.mem_of_mem_take z)
    · exact ok.ok o (List.mem_of_mem_drop z)
abbrev s_without_order : Stmt := top 34
abbrev N_without_order : List Str := ["orders", "index"]
abbrev P_without_order : List Str := ["orders", "index"]
theorem sc_without_order : FnScope N_without_order P_without_order (defScope s_without_order) := ⟨rfl, rfl, rfl, by decide +kernel, rfl, by decide +kernel, by decide +kernel⟩
/-! ### a tuple without one of its values -/
def spWo : Sp := fun vs H Q _ => ∃ (t : Addr) (k : Nat) (ts : List V), vs = [.ref t, .int k] ∧ H t = some (.tup ts) ∧ ts.length ≤ 1000 ∧
  ∀ H' c, Same H H' → H' c = some (.tup (ts.take k ++ ts.drop (k + 1))) → Q (.ref c) H'
section
variable {P : Program} {w : World} {K : PySem.W.Frag} {mg : Str → Option Value} {base : Heap}
theorem ok_wo {f : Addr} {fd : FuncData} (F : Fun K "without_order" "without_order" s_without_order f fd) : FnOk P w K mg base CX0 1 f fd P_without_order spWo := by
  refine F.ok sc_without_order (fun vs H Q E h => ?_) (fun cdv A outer s H vs Q E hr h => ?_)
  · obtain ⟨t, k, ts, rfl, _⟩ := h
    rfl
  · obtain ⟨t, k, ts, rfl, ht, tl, q⟩ := h
    refine ⟨_, pss_one (ps_ret (pe_op op_catA (pe_slice sl_tupA (pv 0) po_none (po_some (pv 1))) (pe_slice sl_tupA (pv 0) (po_some (pe_op op_add (pv 1) pe_int)) po_none))), ?_⟩
    refine ⟨_, rfl, _, rfl, (k : Nat), rfl, ?_⟩
    refine slA_case ht fun b H1 s1 hb => ?_
    have ht1 := s1 _ _ ht
    refine ⟨_, rfl, _, rfl, _, _, rfl, rfl, (k : Int) + 1, rfl, ?_⟩
    unfold tNoPart
    refine slA_case (lo := some ((k : Int) + 1)) (hi := none) ht1 fun b2 H2 s2 hb2 => ?_
    rw [cut_to] at hb
    rw [show ((k : Int) + 1) = ((k + 1 : Nat) : Int) from rfl, cut_from] at hb2
    exact catA_case (s2 _ _ hb) hb2 (by rw [List.length_take, List.length_drop]; exact Nat.le_of_lt (small1000 (by omega))) fun c H3 s3 hc => q H3 c (s1.trans (s2.trans s3)) hc
end
abbrev s_with_order : Stmt := top 33
abbrev N_with_order : List Str := ["orders", "index", "order"]
abbrev P_with_order : List Str := ["orders", "index", "order"]
theorem sc_with_order : FnScope N_with_order P_with_order (defScope s_with_order) := ⟨rfl, rfl, rfl, by decide +kernel, rfl, by decide +kernel, by decide +kernel⟩
/-! ### a tuple with another value in place of one -/
def spWith : Sp := fun vs H Q _ => ∃ (t : Addr) (k : Nat) (ts : List V) (v : V), vs = [.ref t, .int k, v] ∧ H t = some (.tup ts) ∧ ts.length ≤ 900 ∧
  ∀ H' c, Same H H' → H' c = some (.tup (ts.take k ++ [v] ++ ts.drop (k + 1))) → Q (.ref c) H'
section
variable {P : Program} {w : World} {K : PySem.W.Frag} {mg : Str → Option Value} {base : Heap}
theorem ok_with {f : Addr} {fd : FuncData} (F : Fun K "with_order" "with_order" s_with_order f fd) : FnOk P w K mg base CX0 1 f fd P_with_order spWith := by
  refine F.ok sc_with_order (fun vs H Q E h => ?_) (fun cdv A outer s H vs Q E hr h => ?_)
  · obtain ⟨t, k, ts, v, rfl, _⟩ := h
    rfl
  · obtain ⟨t, k, ts, v, rfl, ht, tl, q⟩ := h
    refine ⟨_, pss_one (ps_ret (pe_op op_catA (pe_op op_catA (pe_slice sl_tupA (pv 0) po_none (po_some (pv 1))) (pe_tup (pa_cons (pv 2) pa_nil))) (pe_slice sl_tupA (pv 0) (po_some (pe_op op_add (pv 1) pe_int)) po_none))), ?_⟩
    refine ⟨_, rfl, _, rfl, (k : Nat), rfl, ?_⟩
    refine slA_case ht fun b H1 s1 hb => ?_
    rw [cut_to] at hb
    have ht1 := s1 _ _ ht
    refine ⟨_, rfl, (by show 1 ≤ sizeLine; decide), fun u nu => ?_⟩
    have su := same_upd (o := HO.tup [v]) nu
    refine catA_case (su _ _ hb) upd_same (by rw [List.length_take]; exact Nat.le_of_lt (small1000 (by show _ + 1 ≤ _; omega))) fun c H2 s2 hc => ?_
    have s12 := su.trans s2
    refine ⟨_, rfl, _, rfl, _, _, rfl, rfl, (k : Int) + 1, rfl, ?_⟩
    unfold tNoPart
    refine slA_case (lo := some ((k : Int) + 1)) (hi := none) (s12 _ _ ht1) fun b2 H3 s3 hb2 => ?_
    rw [show ((k : Int) + 1) = ((k + 1 : Nat) : Int) from rfl, cut_from] at hb2
    exact catA_case (s3 _ _ hc) hb2 (by rw [List.length_append, List.length_take, List.length_drop]; exact Nat.le_of_lt (small1000 (by show _ + 1 + _ ≤ _; omega))) fun c2 H4 s4 hc2 => q H4 c2 (s1.trans (s12.trans (s3.trans s4))) hc2
end
/-! ### slices and sums of lists -/
theorem slL_case {K : PySem.W.Frag} {a : Addr} {xs : List V} {lo hi : Option Int} {H : Hp} {Q : VK} (ha : H a = some (.lst xs)) (h : ∀ b H', Same H H' → H b = none → H' b = some (.lst (cutV xs lo hi)) → Q (.ref b) H') : rSlL K (.ref a) lo hi H Q :=
  ⟨a, xs, rfl, SqL.of ha, fun p np => h p _ (same_upd np) np upd_same⟩
theorem catL_case {a b : Addr} {xs ys : List V} {H : Hp} {Q : VK} (ha : H a = some (.lst xs)) (hb : H b = some (.lst ys)) (hl : xs.length + ys.length ≤ sizeLine) (h : ∀ c H', Same H H' → H c = none → H' c = some (.lst (xs ++ ys)) → Q (.ref c) H') : rCat (.ref a) (.ref b) H Q :=
  ⟨a, b, xs, ys, rfl, rfl, ha, hb, hl, fun p np => h p _ (same_upd np) np upd_same⟩
theorem Paired.setAt {α β : Type} {F : α → β → Prop} {x : α} {y : β} : ∀ {l1 : List α} {l2 : List β} (k : Nat), Paired F l1 l2 → F x y → Paired F (l1.set k x) (l2.set k y)
  | _, _, _, .nil, _ => .nil
  | _, _, 0, .cons _ t, q => .cons q t
  | _, _, k + 1, .cons r t, q => .cons r (Paired.setAt k t q)
/-! ### delivered by a day, on a day -/
def byDay (p h : Nat) (os : List Od) (day : Nat) (s : Nat × Nat) : Bool := match dst p h os s with
  | none => false
  | some c => decide (c.2 ≤ day)
def onDayB (p h : Nat) (os : List Od) (day : Nat) (s : Nat × Nat) : Bool := match dst p h os s with
  | none => false
  | some c => decide (c.2 = day)
theorem byDay_some {p h day : Nat} {os : List Od} {s c : Nat × Nat} (e : dst p h os s = some c) : byDay p h os day s = decide ((c.2 : Int) ≤ (day : Int)) := by
  unfold byDay
  rw [e, dec_le]
theorem onDay_some {p h day : Nat} {os : List Od} {s c : Nat × Nat} (e : dst p h os s = some c) : onDayB p h os day s = decide (V.int (c.2 : Int) = V.int (day : Int)) := by
  unfold onDayB
  rw [e, dec_intV]
theorem odK {p h s t f n e : Nat} (h1 : s < h) (h2 : t < h) (h3 : s ≠ t) (h4 : f < p) (h5 : 1 ≤ n) (h6 : n ≤ p) (h7 : 1 ≤ e) (h8 : e ≤ 9) : OdOk p h ⟨s, t, f, n, e⟩ := ⟨h1, h2, h3, h4, h5, h6, h7, h8⟩
/-! ### words and numbers -/
def digB (w : Str) : Bool := Txt.isascii w && Txt.isdigit w
def numB (w : Str) : Bool := digB w && (decide (w = "0") || (decide (w.length ≤ 3) && !decide (w.cps.toList.head? = some 48)))
/-- a word, and the number that it is, if it is one -/
structure Wk (w : Str) (v : Option Nat) : Prop where
  num : numB w = v.isSome
  int : ∀ n, v = some n → PySem.intText? w = some (n : Int)
  len : w.length ≤ 640
abbrev s_is_numeral : Stmt := top 23
abbrev N_is_numeral : List Str := ["word"]
abbrev P_is_numeral : List Str := ["word"]
theorem sc_is_numeral : FnScope N_is_numeral P_is_numeral (defScope s_is_numeral) := ⟨rfl, rfl, rfl, by decide +kernel, rfl, by decide +kernel, by decide +kernel⟩
abbrev s_read_line : Stmt := top 24
abbrev N_read_line : List Str := ["line", "word", "count", "first", "numerals", "numeral"]
abbrev P_read_line : List Str := ["line", "word", "count"]
theorem sc_read_line : FnScope N_read_line P_read_line (defScope s_read_line) := ⟨rfl, rfl, rfl, by decide +kernel, rfl, by decide +kernel, by decide +kernel⟩
def spNum : Sp := fun vs H Q _ => ∃ (w : Str), vs = [.str w] ∧ w.length ≤ 640 ∧ Q (.bl (numB w)) H
theorem digit_ne {w : Str} (h : Txt.isdigit w = true) : ∃ c r, w.cps.toList = c :: r := by
  have h1 : (decide (w.length > 0) && w.cps.all Unicode.isDigit) = true := h
  have h2 : w.length > 0 := of_decide_eq_true (Bool.and_eq_true_iff.mp h1).1
  have h3 : w.cps.toList.length > 0 := h2
  cases e : w.cps.toList with
  | nil => rw [e] at h3; cases h3
  | cons c r => exact ⟨c, r, rfl⟩
theorem one_str (c : Nat) : decide (V.str ⟨#[c]⟩ = V.str "0") = decide (c = 48) := by
  by_cases h : c = 48
  · subst h
    exact decide_eq_true (by rfl)
  · rw [decide_eq_false h]
    refine decide_eq_false fun e => h ?_
    have e2 := congrArg (fun s : Str => s.cps.toList) (V.str.inj e)
    have e3 : [c] = [48] := e2
    exact List.singleton_inj.mp e3
section
variable {P : Program} {w : World} {K : PySem.W.Frag} {mg : Str → Option Value} {base : Heap}
theorem ok_numeral {f : Addr} {fd : FuncData} (F : Fun K "is_numeral" "is_numeral" s_is_numeral f fd) (B : Blt mg) (hM : ∃ t, mg "MOST_DIGITS" = some (.int 3 t)) : FnOk P w K mg base CX0 2 f fd P_is_numeral spNum := by
  obtain ⟨tkM, hM⟩ := hM
  refine F.ok sc_is_numeral (fun vs H Q E h => ?_) (fun cdv A outer s H vs Q E hr h => ?_)
  · obtain ⟨x, rfl, _⟩ := h
    rfl
  · obtain ⟨x, rfl, hl, q⟩ := h
    refine ⟨_, pss_cons (ps_if (pt_not (PW.pt (pw_and (pt_val (pe_m0 PySem.F.slot_str_isascii PySem.F.type_str_isascii mt_isascii (pv 0))) (pw_and1 (pt_val (pe_m0 PySem.F.slot_str_isdigit PySem.F.type_str_isdigit mt_isdigit (pv 0))))))) (pss_one (ps_ret pe_bl)) pss_nil)
      (pss_one (ps_ret (pe_or (pe_cmpR op_eq (pv 0) pe_str (nomark _)) (pe_one (pe_and (pe_cmpR op_le (pe_callB call_len_str (by rfl) B.len PySem.boot_len (pa_cons (pv 0) pa_nil)) (pe_glob (v := .int 3) rfl hM ⟨_, rfl⟩) (nomark _))
        (pe_one (pe_cmpR op_ne (pe_ix ix_str (pv 0) pe_int (fun _ _ => rfl)) pe_str (nomark _)))))))), ?_⟩
    have hz : x.length ≤ sizeLine := by rw [sizeLine_eq]; omega
    have eN : numB x = (digB x && (decide (x = "0") || (decide (x.length ≤ 3) && !decide (x.cps.toList.head? = some 48)))) := rfl
    have eD : digB x = (Txt.isascii x && Txt.isdigit x) := rfl
    refine ⟨_, rfl, ⟨_, rfl⟩, x, rfl, rfl, trivial, _, rfl, ite2 (fun e1 => ?_) (fun e1 => ?_)⟩
    · refine ⟨_, rfl, ⟨_, rfl⟩, x, rfl, rfl, trivial, _, rfl, ite2 (fun e2 => ?_) (fun e2 => ?_)⟩
      · have e3 : Txt.isdigit x = false := by simpa using e2
        have e4 : numB x = false := by rw [eN, eD, e3, Bool.and_false, Bool.false_and]
        rw [e4] at q
        exact q
      · have e3 : Txt.isdigit x = true := by simpa using e2
        have e4 : numB x = (decide (x = "0") || (decide (x.length ≤ 3) && !decide (x.cps.toList.head? = some 48))) := by rw [eN, eD, e1, e3]; rfl
        rw [e4] at q
        obtain ⟨c, r, hc⟩ := digit_ne e3
        have es : decide (V.str x = V.str "0") = decide (x = "0") := by
          by_cases h : x = "0"
          · rw [decide_eq_true h, decide_eq_true (by rw [h])]
          · rw [decide_eq_false h, decide_eq_false fun e => h (V.str.inj e)]
        refine ⟨_, rfl, rfl, _, rfl, ?_⟩
        rw [es]
        refine ite2 (fun e5 => ?_) (fun e5 => ?_)
        · rw [e5, Bool.true_or] at q
          exact q
        · rw [Bool.eq_false_iff.mpr e5, Bool.false_or] at q
          refine ⟨_, rfl, x, rfl, hz, _, _, rfl, rfl, _, rfl, ?_⟩
          have el : decide ((x.length : Int) ≤ 3) = decide (x.length ≤ 3) := by
            by_cases h : x.length ≤ 3
            · rw [decide_eq_true h, decide_eq_true (by omega)]
            · rw [decide_eq_false h, decide_eq_false (by omega)]
          rw [el]
          refine ite2 (fun e6 => ?_) (fun e6 => ?_)
          · rw [e6, Bool.true_and, hc] at q
            refine ⟨_, rfl, x, 0, c, rfl, rfl, hz, by rw [hc]; exact atI_nat (j := 0) rfl, rfl, ?_⟩
            rw [one_str]
            have e7 : decide ((c :: r).head? = some 48) = decide (c = 48) := by
              by_cases h : c = 48 <;> simp [h]
            rw [e7] at q
            exact q
          · rw [Bool.eq_false_iff.mpr e6, Bool.false_and] at q
            exact q
    · have e3 : Txt.isascii x = false := Bool.eq_false_iff.mpr e1
      have e4 : numB x = false := by rw [eN, eD, e3, Bool.false_and, Bool.false_and]
      rw [e4] at q
      exact iteT q
/-- the numbers of a line, or None -/
def rowOf (word : Str) (count : Nat) (ws : List Str) (vals : List (Option Nat)) : Option (List Nat) := match ws with
  | [] => none
  | w :: _ => if w = word ∧ vals.length = count ∧ vals.all Option.isSome = true then some (vals.filterMap id) else none
def RowAt (H H' : Hp) (v : V) : Option (List Nat) → Prop
  | none => v = .non
  | some l => ∃ u, v = .ref u ∧ H u = none ∧ H' u = some (.tup (nints l))
def spLine : Sp := fun vs H Q _ => ∃ (line word w0 : Str) (count : Nat) (ws : List Str) (vals : List (Option Nat)), vs = [.str line, .str word, .int count] ∧ line.length ≤ 100000 ∧ Txt.split line " " = w0 :: ws ∧ ws.length ≤ 60 ∧ Paired Wk ws vals ∧
  ∀ H' v, Same H H' → RowAt H H' v (rowOf word count (w0 :: ws) vals) → Q v H'
theorem ok_line {f : Addr} {fd : FuncData} (F : Fun K "read_line" "read_line" s_read_line f fd) (B : Blt mg) (DN : Df P w K mg base "is_numeral" 2 P_is_numeral spNum) : FnOk P w K mg base CX0 3 f fd P_read_line spLine := by
  obtain ⟨fN, fdN, gN, kN, bN, GN⟩ := DN
  refine F.ok sc_read_line (fun vs H Q E h => ?_) (fun cdv A outer s H vs Q E hr h => ?_)
  · obtain ⟨line, word, w0, count, ws, vals, rfl, _⟩ := h
    rfl
  · obtain ⟨line, word, w0, count, ws, vals, rfl, hl, hs, hw, hp, q⟩ := h
    refine ⟨_, pss_cons (ps_asg (pe_split (pv 0) pe_str) (pg_star1 rfl (pgs_cons (pg_name (i := 3) sc_read_line.nd rfl (.inl rfl)) (pgs_star (pg_name (i := 4) sc_read_line.nd rfl (.inl rfl)) pgs_nil))))
      (pss_cons (ps_if (PW.pt (pw_or (pt_cmpR op_ne (pv 3) (pv 1) (nomark _)) (pw_or1 (pt_cmpR op_ne (pe_callB call_len_seq (by rfl) B.len PySem.boot_len (pa_cons (pv 4) pa_nil)) (pv 2) (nomark _))))) (pss_one (ps_ret pe_non)) pss_nil)
      (pss_cons (ps_if (pt_not (pt_val (pe_callB (cr_all rfl) (by rfl) B.all PyProof.Rows.boot_all (pa_cons (pe_lc (own := [("numeral", 5)]) (g := gName 5) (tt := tYes) (te := tCall spNum [] E0 (tCons (tVar 5) tNil)) (by rfl) sc_read_line.nd (pi_list (pv 4))
            (blkOk_by (N := N_read_line) (sc := defScope s_read_line) (by decide +kernel)) (fun _ _ _ _ _ => pg_name (i := 5) sc_read_line.nd rfl (.inl rfl)) (fun _ _ _ _ _ => pts_nil) (fun _ _ _ _ _ => pe_call GN hr (by rfl) gN kN bN .nil pass0 (pa_cons (pv 5) pa_nil))) pa_nil)))) (pss_one (ps_ret pe_non)) pss_nil)
      (pss_one (ps_ret (pe_callTy call_tuple_of (by rfl) B.tuple (by decide +kernel) (pa_cons (pe_lc (own := [("numeral", 5)]) (g := gName 5) (tt := tYes) (te := tCB (fun xs H Q => ∃ a n, xs = [V.str a] ∧ PySem.intText? a = some n ∧ a.length ≤ 640 ∧ Q (.int n) H) (tCons (tVar 5) tNil)) (by rfl) sc_read_line.nd (pi_list (pv 4))
            (blkOk_by (N := N_read_line) (sc := defScope s_read_line) (by decide +kernel)) (fun _ _ _ _ _ => pg_name (i := 5) sc_read_line.nd rfl (.inl rfl)) (fun _ _ _ _ _ => pts_nil) (fun _ _ _ _ _ => pe_callTy call_int_str (by rfl) B.int (by decide +kernel) (pa_cons (pv 5) pa_nil))) pa_nil)))))), ?_⟩
    have hlen := hp.length
    refine ⟨_, rfl, ⟨_, rfl⟩, line, " ", rfl, rfl, rfl, by rw [sizeLine_eq]; omega, fun p np => ?_⟩
    rw [hs]
    have s1 := same_upd (o := HO.lst ((w0 :: ws).map V.str)) np
    refine ⟨p, .str w0, ws.map V.str, rfl, SqL.of upd_same, by rw [List.length_map]; omega, fun D nD => ?_⟩
    have s2 := same_upd (o := HO.lst (ws.map V.str)) nD
    have hD : (upd (upd H p (.lst ((w0 :: ws).map V.str))) D (.lst (ws.map V.str))) D = some (.lst (ws.map V.str)) := upd_same
    have s12 := s1.trans s2
    generalize (upd (upd H p (.lst ((w0 :: ws).map V.str))) D (.lst (ws.map V.str))) = H1 at hD s12
    refine ⟨_, _, rfl, _, _, rfl, rfl, ?_⟩
    have no : (rowOf word count (w0 :: ws) vals = none) → Q .non H1 := fun e => q H1 .non s12 (by rw [e]; rfl)
    refine ⟨_, rfl, _, rfl, rfl, _, rfl, ite2 (fun e1 => ?_) (fun e1 => ?_)⟩
    · refine no ?_
      have : w0 ≠ word := fun z => by
        rw [z, decide_eq_true rfl] at e1
        cases e1
      exact if_neg fun z => this z.1
    have ew : w0 = word := by
      by_cases z : w0 = word
      · exact z
      · exact absurd (by rw [decide_eq_false fun e => z (V.str.inj e)]; rfl) e1
    refine ⟨_, rfl, D, _, rfl, .inl (SqL.of hD), _, rfl, rfl, _, rfl, ?_⟩
    rw [List.length_map, hlen]
    refine ite2 (fun e2 => ?_) (fun e2 => ?_)
    · refine no ?_
      have : vals.length ≠ count := fun z => by
        rw [z, decide_eq_true rfl] at e2
        cases e2
      exact if_neg fun z => this z.2.1
    have ec : vals.length = count := by
      by_cases z : vals.length = count
      · exact z
      · exact absurd (by rw [decide_eq_false fun e => z (by have := V.int.inj e; omega)]; rfl) e2
    -- all of them numbers?
    refine ⟨_, rfl, D, rfl, ⟨_, SqL.of hD⟩, fun L nL => ?_⟩
    have nDL : D ≠ L := ne_of_none hD nL
    refine lc_list (K := K) (a := D) (xs := ws.map V.str) (fun k H' => H' = upd H1 L (.lst ((vals.take k).map fun o => V.bl o.isSome))) rfl (fun k H' _ e => by rw [e]; exact SqL.of ((upd_ne nDL).trans hD)) ?_ ?_
    · rintro k v H' hk rfl
      rw [List.getElem?_map] at hk
      obtain ⟨wk, hwk, rfl⟩ := Option.map_eq_some_iff.mp hk
      have lt : k < vals.length := by rw [← hlen]; exact (List.getElem?_eq_some_iff.mp hwk).1
      obtain ⟨w', hw', hx⟩ := Paired.get? (i := k) hp (List.getElem?_eq_getElem lt)
      obtain rfl : w' = wk := Option.some.inj (hw'.symm.trans hwk)
      refine ⟨rfl, _, rfl, w', rfl, hx.len, _, upd_same, ?_, ?_⟩
      · rw [List.length_map, List.length_take]
        exact small1000 (by omega)
      · rw [upd_upd, List.take_add_one, List.getElem?_eq_getElem lt, List.map_append, hx.num]
        rfl
    rintro H' rfl
    rw [List.length_map, hlen, List.take_of_length_le (Nat.le_refl _)]
    have s3 := same_upd (o := HO.lst (vals.map fun o => V.bl o.isSome)) nL
    have s13 := s12.trans s3
    have hD3 := s3 _ _ hD
    refine ⟨L, vals.map Option.isSome, rfl, ?_, _, rfl, ?_⟩
    · rw [List.map_map]
      exact SqL.of upd_same
    have eall : (vals.map Option.isSome).all id = vals.all Option.isSome := by rw [List.all_map]; rfl
    rw [eall]
    refine ite2 (fun e3 => ?_) (fun e3 => ?_)
    · have e4 : vals.all Option.isSome = false := by simpa using e3
      exact q _ .non s13 (by rw [show rowOf word count (w0 :: ws) vals = none from if_neg fun z => by rw [e4] at z; exact absurd z.2.2 Bool.false_ne_true]; rfl)
    have e4 : vals.all Option.isSome = true := by
      cases h : vals.all Option.isSome with
      | true => rfl
      | false => exact absurd (by rw [h]; rfl) e3
    have er : rowOf word count (w0 :: ws) vals = some (vals.filterMap id) := if_pos ⟨ew, ec, e4⟩
    generalize (upd H1 L (.lst (vals.map fun o => V.bl o.isSome))) = H3 at s13 hD3
    -- the numbers
    refine ⟨_, rfl, D, rfl, ⟨_, SqL.of hD3⟩, fun L2 nL2 => ?_⟩
    have nDL2 : D ≠ L2 := ne_of_none hD3 nL2
    refine lc_list (K := K) (a := D) (xs := ws.map V.str) (fun k H' => H' = upd H3 L2 (.lst (nints ((vals.take k).filterMap id)))) rfl (fun k H' _ e => by rw [e]; exact SqL.of ((upd_ne nDL2).trans hD3)) ?_ ?_
    · rintro k v H' hk rfl
      rw [List.getElem?_map] at hk
      obtain ⟨wk, hwk, rfl⟩ := Option.map_eq_some_iff.mp hk
      have lt : k < vals.length := by rw [← hlen]; exact (List.getElem?_eq_some_iff.mp hwk).1
      have ek := List.getElem?_eq_getElem lt
      obtain ⟨w', hw', hx⟩ := Paired.get? (i := k) hp ek
      obtain rfl : w' = wk := Option.some.inj (hw'.symm.trans hwk)
      have hsome := List.all_eq_true.mp e4 _ (List.mem_of_getElem? ek)
      generalize vals[k] = ok at ek hx hsome
      cases ok with
      | none => cases hsome
      | some n =>
        refine ⟨rfl, _, rfl, w', (n : Int), rfl, hx.int n rfl, hx.len, _, upd_same, ?_, ?_⟩
        · unfold nints
          rw [List.length_map]
          exact small1000 (Nat.le_trans (List.length_filterMap_le _ _) (by rw [List.length_take]; omega))
        · rw [upd_upd, List.take_add_one, ek, List.filterMap_append]
          unfold nints
          rw [List.map_append]
          rfl
    rintro H' rfl
    rw [List.length_map, hlen, List.take_of_length_le (Nat.le_refl _)]
    have s4 := same_upd (o := HO.lst (nints (vals.filterMap id))) nL2
    refine ⟨L2, _, rfl, .inl ⟨SqL.of upd_same, fun u nu => ?_⟩⟩
    have s5 := same_upd (o := HO.tup (nints (vals.filterMap id))) nu
    refine q _ _ (s13.trans (s4.trans s5)) ?_
    rw [er]
    exact ⟨u, rfl, s13.free (s4.free nu), upd_same⟩
end
/-! ### numbers as texts -/
def nT (n : Nat) : Str := Str.ofString (toString (n : Int))
def nTok (n : Nat) : Bool := numB (nT n) && decide (PySem.intText? (nT n) = some (n : Int)) && decide ((nT n).length ≤ 2) && (nT n).cps.all (fun c => decide (48 ≤ c ∧ c ≤ 57))
theorem nTok_all : (List.range 31).all nTok = true := by decide +kernel
theorem nT_ok {n : Nat} (h : n ≤ 30) : numB (nT n) = true ∧ PySem.intText? (nT n) = some (n : Int) ∧ (nT n).length ≤ 2 ∧ ∀ c ∈ (nT n).cps.toList, 48 ≤ c ∧ c ≤ 57 := by
  have h1 := List.all_eq_true.mp nTok_all n (List.mem_range.mpr (by omega))
  unfold nTok at h1
  rw [Bool.and_eq_true, Bool.and_eq_true, Bool.and_eq_true] at h1
  obtain ⟨⟨⟨a, b⟩, c⟩, d⟩ := h1
  refine ⟨a, of_decide_eq_true b, of_decide_eq_true c, fun x hx => ?_⟩
  have := Array.all_eq_true_iff_forall_mem.mp d x (Array.mem_toList_iff.mp hx)
  exact of_decide_eq_true this
/-! ### texts of nets: plain mathematics -/
theorem mem_joinL {S : List Nat} {x : Nat} : ∀ {parts : List (List Nat)}, x ∈ TL.joinL S parts → x ∈ S ∨ ∃ p ∈ parts, x ∈ p
  | [], h => by cases h
  | [p], h => .inr ⟨p, List.mem_singleton.mpr rfl, h⟩
  | p :: q :: r, h => by
    rcases List.mem_append.mp (show x ∈ p ++ (S ++ TL.joinL S (q :: r)) from h) with h | h
    · exact .inr ⟨p, List.mem_cons_self, h⟩
    · rcases List.mem_append.mp h with h | h
      · exact .inl h
      · rcases mem_joinL h with h | ⟨z, hz, h⟩
        · exact .inl h
        · exact .inr ⟨z, List.mem_cons_of_mem _ hz, h⟩
theorem mem_join {y : Str} {x : Nat} {parts : List Str} (h : x ∈ TL.tl (Txt.join y parts)) : x ∈ TL.tl y ∨ ∃ p ∈ parts, x ∈ TL.tl p := by
  rw [TL.join_eq, TL.tl_join] at h
  rcases mem_joinL h with h | ⟨z, hz, h⟩
  · exact .inl h
  · obtain ⟨p, hp, rfl⟩ := List.mem_map.mp hz
    exact .inr ⟨p, hp, h⟩
theorem len_joinL {S : List Nat} : ∀ parts : List (List Nat), (TL.joinL S parts).length ≤ (parts.map List.length).sum + parts.length * S.length
  | [] => Nat.zero_le _
  | [p] => by
    show p.length ≤ _
    simp
  | p :: q :: r => by
    have ih := len_joinL (S := S) (q :: r)
    show (p ++ (S ++ TL.joinL S (q :: r))).length ≤ _
    rw [List.length_append, List.length_append, List.map_cons, List.sum_cons, List.length_cons, Nat.succ_mul]
    omega
theorem len_join {y : Str} (parts : List Str) : (Txt.join y parts).length ≤ (parts.map (·.length)).sum + parts.length * y.length := by
  have h := len_joinL (S := TL.tl y) (parts.map TL.tl)
  rw [TL.len_tl, TL.join_eq, TL.tl_join, TL.len_tl y]
  rw [List.map_map, List.length_map] at h
  exact h
def wordsO (o : Od) : List Str := [nT o.s, nT o.t, nT o.f, nT o.n, nT o.e]
def lineNet (p h : Nat) : Str := Txt.join " " [("net" : Str), nT p, nT h]
def lineOrd (o : Od) : Str := Txt.join " " (("order" : Str) :: wordsO o)
def linesOf (p h : Nat) (os : List Od) : List Str := lineNet p h :: os.map lineOrd
def textOf (p h : Nat) (os : List Od) : Str := Txt.join "\n" (linesOf p h os)
/-- a word of digits or letters -/
def Plain (w : Str) : Prop := ∀ c ∈ TL.tl w, 33 ≤ c
theorem nT_plain {n : Nat} (h : n ≤ 30) : Plain (nT n) := fun c hc => by
  have := (nT_ok h).2.2.2 c hc
  omega
theorem net_plain : Plain "net" := by
  unfold Plain
  decide +kernel
theorem order_plain : Plain "order" := by
  unfold Plain
  decide +kernel
theorem od_le {p h : Nat} {os : List Od} {o : Od} (k : NetOk p h os) (ho : o ∈ os) : o.s ≤ 30 ∧ o.t ≤ 30 ∧ o.f ≤ 30 ∧ o.n ≤ 30 ∧ o.e ≤ 30 := by
  have a := k.ok o ho
  have := a.s; have := a.t; have := a.f; have := a.n; have := a.e; have := k.p30; have := k.h10
  omega
theorem wordsO_plain {p h : Nat} {os : List Od} {o : Od} (k : NetOk p h os) (ho : o ∈ os) : ∀ w ∈ wordsO o, Plain w := by
  obtain ⟨h1, h2, h3, h4, h5⟩ := od_le k ho
  intro w hw
  unfold wordsO at hw
  simp only [List.mem_cons, List.not_mem_nil, or_false] at hw
  rcases hw with rfl | rfl | rfl | rfl | rfl
  · exact nT_plain h1
  · exact nT_plain h2
  · exact nT_plain h3
  · exact nT_plain h4
  · exact nT_plain h5
theorem split_words {ws : List Str} (hne : ws ≠ []) (h : ∀ w ∈ ws, Plain w) : Txt.split (Txt.join " " ws) " " = ws :=
  TL.split_join (s := 32) (S := []) (by decide +kernel) (by decide +kernel) hne fun w hw hc => by
    have := h w hw 32 hc
    omega
theorem line_free {ws : List Str} (h : ∀ w ∈ ws, Plain w) : 10 ∉ TL.tl (Txt.join " " ws) := fun hc => by
  rcases mem_join hc with h1 | ⟨w, hw, h1⟩
  · have : TL.tl " " = [32] := by decide +kernel
    rw [this] at h1
    simp at h1
  · have := h w hw 10 h1
    omega
theorem split_lines {ls : List Str} (hne : ls ≠ []) (h : ∀ l ∈ ls, 10 ∉ TL.tl l) : Txt.split (Txt.join "\n" ls) "\n" = ls :=
  TL.split_join (s := 10) (S := []) (by decide +kernel) (by decide +kernel) hne h
theorem split_net {p h : Nat} (hp : p ≤ 30) (hh : h ≤ 30) : Txt.split (lineNet p h) " " = [("net" : Str), nT p, nT h] := split_words (by simp) fun w hw => by
  simp only [List.mem_cons, List.not_mem_nil, or_false] at hw
  rcases hw with rfl | rfl | rfl
  · exact net_plain
  · exact nT_plain hp
  · exact nT_plain hh
theorem split_ord {p h : Nat} {os : List Od} {o : Od} (k : NetOk p h os) (ho : o ∈ os) : Txt.split (lineOrd o) " " = ("order" : Str) :: wordsO o := split_words (by simp) fun w hw => by
  rcases List.mem_cons.mp hw with rfl | hw
  · exact order_plain
  · exact wordsO_plain k ho w hw
theorem split_text {p h : Nat} {os : List Od} (k : NetOk p h os) : Txt.split (textOf p h os) "\n" = linesOf p h os := split_lines (by unfold linesOf; simp) fun l hl => by
  have := k.p30; have := k.h10
  rcases List.mem_cons.mp hl with rfl | hl
  · refine line_free fun w hw => ?_
    simp only [List.mem_cons, List.not_mem_nil, or_false] at hw
    rcases hw with rfl | rfl | rfl
    · exact net_plain
    · exact nT_plain (by omega)
    · exact nT_plain (by omega)
  · obtain ⟨o, ho, rfl⟩ := List.mem_map.mp hl
    refine line_free fun w hw => ?_
    rcases List.mem_cons.mp hw with rfl | hw
    · exact order_plain
    · exact wordsO_plain k ho w hw
theorem len_net {p h : Nat} (hp : p ≤ 30) (hh : h ≤ 30) : (lineNet p h).length ≤ 20 := by
  refine Nat.le_trans (len_join _) ?_
  have h1 := (nT_ok hp).2.2.1
  have h2 := (nT_ok hh).2.2.1
  have h3 : ("net" : Str).length = 3 := by decide +kernel
  have h4 : (" " : Str).length = 1 := by decide +kernel
  simp [h3, h4]
  omega
theorem len_ord {p h : Nat} {os : List Od} {o : Od} (k : NetOk p h os) (ho : o ∈ os) : (lineOrd o).length ≤ 30 := by
  refine Nat.le_trans (len_join _) ?_
  obtain ⟨h1, h2, h3, h4, h5⟩ := od_le k ho
  have a1 := (nT_ok h1).2.2.1
  have a2 := (nT_ok h2).2.2.1
  have a3 := (nT_ok h3).2.2.1
  have a4 := (nT_ok h4).2.2.1
  have a5 := (nT_ok h5).2.2.1
  have a6 : ("order" : Str).length = 5 := by decide +kernel
  have a7 : (" " : Str).length = 1 := by decide +kernel
  unfold wordsO
  simp [a6, a7]
  omega
theorem lines_len {p h : Nat} {os : List Od} (k : NetOk p h os) : ∀ l ∈ linesOf p h os, l.length ≤ 30 := fun l hl => by
  have := k.p30; have := k.h10
  rcases List.mem_cons.mp hl with rfl | hl
  · exact Nat.le_trans (len_net (by omega) (by omega)) (by decide)
  · obtain ⟨o, ho, rfl⟩ := List.mem_map.mp hl
    exact len_ord k ho
theorem sum_le {l : List Nat} {m : Nat} (h : ∀ x ∈ l, x ≤ m) : l.sum ≤ l.length * m := by
  induction l with
  | nil => exact Nat.zero_le _
  | cons a l ih =>
    rw [List.sum_cons, List.length_cons, Nat.succ_mul]
    have := ih fun x hx => h x (List.mem_cons_of_mem _ hx)
    have := h a List.mem_cons_self
    omega
theorem lines_sum {p h : Nat} {os : List Od} (k : NetOk p h os) : ((linesOf p h os).map (·.length)).sum ≤ 630 := by
  refine Nat.le_trans (sum_le (m := 30) fun x hx => ?_) ?_
  · obtain ⟨l, hl, rfl⟩ := List.mem_map.mp hx
    exact lines_len k l hl
  · rw [List.length_map]
    show (os.map lineOrd).length.succ * 30 ≤ 630
    rw [List.length_map]
    have := k.len
    omega
theorem len_text {p h : Nat} {os : List Od} (k : NetOk p h os) : (textOf p h os).length ≤ 700 := by
  refine Nat.le_trans (len_join _) ?_
  have h1 := lines_sum k
  have h2 : ("\n" : Str).length = 1 := by decide +kernel
  have h3 : (linesOf p h os).length ≤ 21 := by
    show (os.map lineOrd).length.succ ≤ 21
    rw [List.length_map]
    have := k.len
    omega
  rw [h2]
  omega
theorem wk_nT {n : Nat} (h : n ≤ 30) : Wk (nT n) (some n) := ⟨(nT_ok h).1, fun m e => by
  cases e
  exact (nT_ok h).2.1, by have := (nT_ok h).2.2.1; omega⟩
/-- joined words, one behind the other -/
theorem join3 (a b c : Str) : Txt.join " " [a, b, c] = a ++ " " ++ b ++ " " ++ c := by
  rw [TL.join_eq]
  refine TL.ext_tl ?_
  rw [TL.tl_join]
  simp [TL.joinL, TL.tl_append]
theorem join6 (a b c d e f : Str) : Txt.join " " [a, b, c, d, e, f] = a ++ " " ++ b ++ " " ++ c ++ " " ++ d ++ " " ++ e ++ " " ++ f := by
  rw [TL.join_eq]
  refine TL.ext_tl ?_
  rw [TL.tl_join]
  simp [TL.joinL, TL.tl_append]
theorem cat_net : (Str.empty ++ "net " : Str) = "net" ++ " " := by decide +kernel
theorem cat_order : (Str.empty ++ "order " : Str) = "order" ++ " " := by decide +kernel
theorem cat_net' : ("net " : Str) = "net" ++ " " := by decide +kernel
/-! ### enumerate over a list, by its steps -/
theorem for_enumL {K : PySem.W.Frag} {a : Addr} {xs : List V} {g : TG} {tb : TS} {D : Ends} {σ : L2.St} {H : Hp} (Pv : Nat → L2.St → Hp → Prop) (h0 : Pv 0 σ H) (hl : ∀ i σ H, Pv i σ H → H a = some (.lst xs))
    (hs : ∀ i x σ H T, xs[i]? = some x → Pv i σ H → H T = none → g (.ref T) σ (upd H T (.tup [.int (i : Nat), x])) fun σ2 H2 => tb { D with nx := Pv (i + 1), ct := Pv (i + 1), bk := D.nx } σ2 H2) (hd : ∀ σ H, Pv xs.length σ H → D.nx σ H) :
    ∃ W : Nat → Nat → L2.St → Hp → Prop, (∃ m, W 0 m σ H) ∧ ∀ i m σ H, W i m σ H →
      ((Ite K a).stop i H ∧ D.nx σ H) ∨ ((Ite K a).go i H ∧ ∃ N : L2.St → Hp → Prop, (∀ σ' H', N σ' H' → ∃ m', m' < m ∧ W (i + 1) m' σ' H') ∧ ∀ x H', (Ite K a).yld i H x H' → g x σ H' fun σ2 H2 => tb { D with nx := N, ct := N, bk := D.nx } σ2 H2) := by
  refine ⟨fun i m σ H => m = xs.length - i ∧ i ≤ xs.length ∧ Pv i σ H, ⟨xs.length, rfl, Nat.zero_le _, h0⟩, ?_⟩
  rintro i m σ H ⟨rfl, hi, p⟩
  have q := hl i σ H p
  by_cases hlt : i < xs.length
  · refine .inr ⟨⟨xs, xs[i], SqL.of q, List.getElem?_eq_getElem hlt⟩, Pv (i + 1), fun σ' H' p' => ⟨xs.length - (i + 1), by omega, rfl, hlt, p'⟩, fun x H' y => ?_⟩
    obtain ⟨T, x', rfl, nT', rfl, f⟩ := y
    obtain rfl : x' = xs[i] := Option.some.inj ((f xs (SqL.of q)).symm.trans (List.getElem?_eq_getElem hlt))
    exact hs i _ σ H T (List.getElem?_eq_getElem hlt) p nT'
  · refine .inl ⟨⟨xs, SqL.of q, by omega⟩, hd σ H ?_⟩
    rw [show xs.length = i by omega]
    exact p
abbrev s_read_rows : Stmt := top 36
abbrev N_read_rows : List Str := ["text", "rows", "word", "count", "at", "line", "row"]
abbrev P_read_rows : List Str := ["text"]
theorem sc_read_rows : FnScope N_read_rows P_read_rows (defScope s_read_rows) := ⟨rfl, rfl, rfl, by decide +kernel, rfl, by decide +kernel, by decide +kernel⟩
/-! ### the lines of a text, read -/
/-- what is read of the k-th line -/
def LineOk (k : Nat) (line : Str) (row : List Nat) : Prop := ∃ w0 ws vals, line.length ≤ 100000 ∧ Txt.split line " " = w0 :: ws ∧ ws.length ≤ 60 ∧ Paired Wk ws vals ∧ rowOf (if k = 0 then "net" else "order") (if k = 0 then 2 else 5) (w0 :: ws) vals = some row
def RowTup (H : Hp) (v : V) (l : List Nat) : Prop := ∃ u, v = .ref u ∧ H u = some (.tup (nints l))
theorem RowTup.keep {H H' : Hp} {v : V} {l : List Nat} (k : TupKeep H H') (h : RowTup H v l) : RowTup H' v l := by
  obtain ⟨u, e, hu⟩ := h
  exact ⟨u, e, k _ _ hu⟩
def spRows : Sp := fun vs H Q _ => ∃ (text : Str) (lines : List Str) (rows : List (List Nat)), vs = [.str text] ∧ text.length ≤ 100000 ∧ Txt.split text "\n" = lines ∧ lines.length = rows.length ∧ rows.length ≤ 100 ∧ (∀ k l r, lines[k]? = some l → rows[k]? = some r → LineOk k l r) ∧
  ∀ H' r us, Same H H' → H r = none → H' r = some (.lst us) → Paired (RowTup H') us rows → Q (.ref r) H'
section
variable {P : Program} {w : World} {K : PySem.W.Frag} {mg : Str → Option Value} {base : Heap}
theorem ok_rows {f : Addr} {fd : FuncData} (F : Fun K "read_rows" "read_rows" s_read_rows f fd) (B : Blt mg) (DL : Df P w K mg base "read_line" 3 P_read_line spLine) : FnOk P w K mg base CX0 4 f fd P_read_rows spRows := by
  obtain ⟨fL, fdL, gL, kL, bL, GL⟩ := DL
  refine F.ok sc_read_rows (fun vs H Q E h => ?_) (fun cdv A outer s H vs Q E hr h => ?_)
  · obtain ⟨text, lines, rows, rfl, _⟩ := h
    rfl
  · obtain ⟨text, lines, rows, rfl, ht, hs, hl, hr100, hok, q⟩ := h
    refine ⟨_, pss_cons (ps_if (pt_not (pt_val (pe_callB call_isi (by rfl) B.isi PyProof.Rows.boot_isinstance (pa_cons (pv 0) (pa_cons (pe_bltn (v := .ty "str") (by rfl) B.str (by decide +kernel) rfl) pa_nil))))) (pss_one ps_never) pss_nil)
      (pss_cons (ps_set (i := 1) sc_read_rows.nd rfl (.inl rfl) (pe_lst pa_nil))
      (pss_cons (ps_asg (pe_tup (pa_cons pe_str (pa_cons pe_int pa_nil))) (pg_tup (by rfl) (pgs_cons (pg_name (i := 2) sc_read_rows.nd rfl (.inl rfl)) (pgs_cons (pg_name (i := 3) sc_read_rows.nd rfl (.inl rfl)) pgs_nil))))
      (pss_cons (ps_for PassesOwn.never rfl (pi_enum (by rfl) B.enum (pa_cons (pe_split (pv 0) pe_str) pa_nil)) (pg_tup (by rfl) (pgs_cons (pg_name (i := 4) sc_read_rows.nd rfl (.inl rfl)) (pgs_cons (pg_name (i := 5) sc_read_rows.nd rfl (.inl rfl)) pgs_nil)))
        (pss_cons (ps_set (i := 6) sc_read_rows.nd rfl (.inl rfl) (pe_call GL hr (by rfl) gL kL bL .nil pass0 (pa_cons (pv 5) (pa_cons (pv 2) (pa_cons (pv 3) pa_nil)))))
        (pss_cons (ps_if (pt_cmpR op_isN (pv 6) pe_non (nomark _)) (pss_one ps_never) pss_nil)
        (pss_cons (ps_expr (pe_bm PySem.F.plainAttrs_list PySem.F.slot_list_append PySem.F.type_list_append mt_append (pv 1) (pa_cons (pv 6) pa_nil)))
        (pss_one (ps_asg (pe_tup (pa_cons pe_str (pa_cons pe_int pa_nil))) (pg_tup (by rfl) (pgs_cons (pg_name (i := 2) sc_read_rows.nd rfl (.inl rfl)) (pgs_cons (pg_name (i := 3) sc_read_rows.nd rfl (.inl rfl)) pgs_nil)))))))))
      (pss_one (ps_ret (pv 1)))))), ?_⟩
    refine ⟨_, rfl, _, _, _, _, true, rfl, .ty "str", .base (.str text), kit_ty (by decide +kernel), _, rfl, iteF ?_⟩
    refine ⟨Nat.zero_le _, fun r nr => ?_⟩
    refine ⟨(by show 2 ≤ sizeLine; decide), fun k0 nk0 => ⟨k0, _, rfl, SqT.of upd_same, rfl, _, _, rfl, _, _, rfl, rfl, ?_⟩⟩
    refine ⟨_, rfl, ⟨_, rfl⟩, text, "\n", rfl, rfl, rfl, by rw [sizeLine_eq]; omega, fun sp nsp => ?_⟩
    rw [hs]
    have s1 := same_upd (o := HO.lst []) nr
    have s0 := same_upd (o := HO.tup [.str "net", .int 2]) nk0
    have s2 := same_upd (o := HO.lst (lines.map V.str)) nsp
    have nrs : r ≠ sp := ne_of_none (s0 _ _ upd_same) nsp
    refine ⟨sp, _, rfl, SqL.of upd_same, for_enumL (K := K) (a := sp) (xs := lines.map V.str) (fun i σ H' => (∃ x4 x5 x6, σ = [some (.str text), some (.ref r), some (.str (if i = 0 then "net" else "order")), some (.int ((if i = 0 then 2 else 5 : Nat) : Int)), x4, x5, x6]) ∧ Same H H' ∧ H' sp = some (.lst (lines.map V.str)) ∧ ∃ us, H' r = some (.lst us) ∧ Paired (RowTup H') us (rows.take i))
      ⟨⟨_, _, _, rfl⟩, s1.trans (s0.trans s2), upd_same, [], (upd_ne nrs).trans (s0 _ _ upd_same), .nil⟩ (fun i σ H' ⟨_, _, h', _⟩ => h') ?_ ?_⟩
    · rintro i x σ H1 T hi ⟨⟨x4, x5, x6, rfl⟩, s3, hsp, us, hus, hru⟩ nTT
      rw [List.getElem?_map] at hi
      obtain ⟨line, hline, rfl⟩ := Option.map_eq_some_iff.mp hi
      have lt : i < rows.length := by rw [← hl]; exact (List.getElem?_eq_some_iff.mp hline).1
      have ei := List.getElem?_eq_getElem lt
      obtain ⟨w0, ws, vals, a1, a2, a3, a4, a5⟩ := hok i line _ hline ei
      generalize rows[i] = row at ei a5
      have s4 := same_upd (o := HO.tup [.int (i : Nat), .str line]) nTT
      refine ⟨T, _, rfl, SqT.of upd_same, rfl, _, _, rfl, _, _, rfl, rfl, ?_⟩
      refine ⟨_, rfl, _, rfl, _, rfl, line, _, w0, (if i = 0 then 2 else 5), ws, vals, rfl, a1, a2, a3, a4, fun H2 v s5 hv => ?_⟩
      rw [a5] at hv
      obtain ⟨u, rfl, nu, hu⟩ := hv
      have s45 := s4.trans s5
      have hr2 := s45 _ _ hus
      have hsp2 := s45 _ _ hsp
      refine ⟨_, rfl, rfl, _, rfl, iteF ⟨_, rfl, .inl ⟨rfl, _, SqL.of hr2⟩, _, rfl, r, _, _, rfl, rfl, hr2, ?_, ?_⟩⟩
      · rw [hru.length, List.length_take]
        exact small1000 (by omega)
      have k := TupKeep.lst (o := HO.lst (us ++ [.ref u])) hr2
      refine ⟨(by show 2 ≤ sizeLine; decide), fun k1 nk1 => ⟨k1, _, rfl, SqT.of upd_same, rfl, _, _, rfl, _, _, rfl, rfl, ?_⟩⟩
      have s6 := same_upd (o := HO.tup [.str "order", .int 5]) nk1
      refine ⟨⟨_, _, _, rfl⟩, fun b o e => s6 _ _ ?_, s6 _ _ ((upd_ne nrs.symm).trans hsp2), us ++ [.ref u], s6 _ _ upd_same, ?_⟩
      · rw [upd_ne (ne_of_none e nr)]
        exact s45 _ _ (s3 _ _ e)
      · rw [List.take_add_one, ei]
        exact Paired.snoc (Paired.mapP hru fun _ _ z => z.keep (((tk_of s45).trans k).trans (tk_of s6))) ⟨u, rfl, s6 _ _ (k _ _ hu)⟩
    · rintro σ H1 ⟨⟨x4, x5, x6, rfl⟩, s3, hsp, us, hus, hru⟩
      rw [List.length_map, hl, List.take_of_length_le (Nat.le_refl _)] at hru
      exact ⟨_, rfl, q H1 r us s3 nr hus hru⟩
end
abbrev s_Net_text : Stmt := inClass (top 30) 5
abbrev N_Net_text : List Str := ["self", "lines", "source", "target", "first", "days", "delay"]
abbrev P_Net_text : List Str := ["self"]
theorem sc_Net_text : FnScope N_Net_text P_Net_text (defScope s_Net_text) := ⟨rfl, rfl, rfl, by decide +kernel, rfl, by decide +kernel, by decide +kernel⟩
/-! ### the text of a net -/
section
variable {P : Program} {w : World} {K : PySem.W.Frag} {mg : Str → Option Value} {base : Heap}
/-- the text of a net -/
def spText (C : Addr) : Sp := fun vs H Q _ => ∃ (x t : Addr) (p h : Nat) (os : List Od) (F : List Addr), vs = [.ref x] ∧ NetAt C H x p h os t F ∧ NetOk p h os ∧ ∀ H', Same H H' → Q (.str (textOf p h os)) H'
theorem log_small {n : Nat} (h : n ≤ 30) : ((n : Int)).natAbs.log2 < 1920 := by
  have : ((n : Int)).natAbs = n := Int.natAbs_natCast n
  rw [this]
  by_cases c : n = 0
  · subst c; decide
  · have h1 : n.log2 < 5 := (Nat.log2_lt c).mpr (Nat.lt_of_le_of_lt h (by decide))
    omega
theorem len_app (a b : Str) : (a ++ b).length = a.length + b.length := by
  rw [TL.len_tl, TL.tl_append, List.length_append, ← TL.len_tl, ← TL.len_tl]
theorem len_sp : (" " : Str).length = 1 := by decide +kernel
theorem len_net4 : (Str.empty ++ ("net " : Str)).length = 4 := by decide +kernel
theorem len_ord6 : (Str.empty ++ ("order " : Str)).length = 6 := by decide +kernel
theorem ok_text {f C : Addr} {fd : FuncData} (F : Fun K "text" "Net.text" s_Net_text f fd) (T : NetT K C) : FnOk P w K mg base CX0 2 f fd P_Net_text (spText C) := by
  refine F.ok sc_Net_text (fun vs H Q E h => ?_) (fun cdv A outer s H vs Q E hr h => ?_)
  · obtain ⟨x, t, p, h, os, F, rfl, _⟩ := h
    rfl
  · obtain ⟨x, t, p, h, os, F, rfl, Nt, nok, q⟩ := h
    refine ⟨_, pss_cons (ps_set (i := 1) sc_Net_text.nd rfl (.inl rfl) (pe_lst (pa_cons (pe_joined (.cons pe_str (.cons (pe_fmt (pe_fld (pv 0) rfl)) (.cons pe_str (.cons (pe_fmt (pe_fld (pv 0) rfl)) .nil))))) pa_nil)))
      (pss_cons (ps_for PassesOwn.never rfl (pi_tup (pe_fld (pv 0) rfl)) (pg_tup (by rfl) (pgs_cons (pg_name (i := 2) sc_Net_text.nd rfl (.inl rfl)) (pgs_cons (pg_name (i := 3) sc_Net_text.nd rfl (.inl rfl)) (pgs_cons (pg_name (i := 4) sc_Net_text.nd rfl (.inl rfl)) (pgs_cons (pg_name (i := 5) sc_Net_text.nd rfl (.inl rfl)) (pgs_cons (pg_name (i := 6) sc_Net_text.nd rfl (.inl rfl)) pgs_nil))))))
        (pss_one (ps_expr (pe_bm PySem.F.plainAttrs_list PySem.F.slot_list_append PySem.F.type_list_append mt_append (pv 1) (pa_cons (pe_joined (.cons pe_str (.cons (pe_fmt (pv 2)) (.cons pe_str (.cons (pe_fmt (pv 3)) (.cons pe_str (.cons (pe_fmt (pv 4)) (.cons pe_str (.cons (pe_fmt (pv 5)) (.cons pe_str (.cons (pe_fmt (pv 6)) .nil))))))))))) pa_nil)))))
      (pss_one (ps_ret (pe_join pe_str (pv 1))))), ?_⟩
    obtain ⟨dx, fl, as, _, hx, ⟨ts, ht, hP⟩, _⟩ := id Nt
    have p30 := nok.p30; have h10 := nok.h10; have ol := nok.len
    have hp2 := (nT_ok p30).2.2.1
    have hh2 := (nT_ok (show h ≤ 30 by omega)).2.2.1
    refine ⟨_, rfl, by rw [len_net4, sizeLine_eq]; omega, ?_⟩
    refine ⟨_, rfl, x, C, dx, _, _, rfl, hx, T.cl, T.nP, nf_pe, .inr ⟨_, rfl, log_small p30, nT p, rfl, ?_, ?_⟩⟩
    · rw [len_app, len_net4, sizeLine_eq]
      omega
    refine ⟨_, rfl, ?_, ?_⟩
    · rw [len_app, len_app, len_net4, len_sp, sizeLine_eq]
      omega
    refine ⟨_, rfl, x, C, dx, _, _, rfl, hx, T.cl, T.nH, nf_ho, .inr ⟨_, rfl, log_small (show h ≤ 30 by omega), nT h, rfl, ?_, ?_⟩⟩
    · rw [len_app, len_app, len_app, len_net4, len_sp, sizeLine_eq]
      omega
    have e1 : (((Str.empty ++ "net " : Str) ++ nT p) ++ " ") ++ nT h = lineNet p h := by
      unfold lineNet
      rw [join3, cat_net]
    refine ⟨(by show 1 ≤ sizeLine; decide), fun L nL => ?_⟩
    rw [show (V.str ((((Str.empty ++ "net ") ++ nT p) ++ " ") ++ nT h)) = V.str (lineNet p h) by rw [e1]]
    have s1 := same_upd (o := HO.lst [.str (lineNet p h)]) nL
    refine ⟨_, rfl, x, C, dx, _, _, rfl, s1 _ _ hx, T.cl, T.nO, nf_or, t, rfl, ⟨_, SqT.of (s1 _ _ ht)⟩, ?_⟩
    refine for_tup (K := K) (a := t) (xs := ts) (fun i σ H' => (∃ x2 x3 x4 x5 x6, σ = [some (.ref x), some (.ref L), x2, x3, x4, x5, x6]) ∧ H' = upd H L (.lst ((lineNet p h :: (os.take i).map lineOrd).map V.str)))
      ⟨⟨_, _, _, _, _, rfl⟩, rfl⟩ (fun i σ H' _ ⟨_, e⟩ => by rw [e]; exact SqT.of (same_upd nL _ _ ht)) ?_ ?_
    · rintro i v σ H1 hi ⟨⟨x2, x3, x4, x5, x6, rfl⟩, rfl⟩
      have hl := hP.length
      have lt : i < os.length := by rw [← hl]; exact (List.getElem?_eq_some_iff.mp hi).1
      have ei := List.getElem?_eq_getElem lt
      obtain ⟨v', hv', u, ev, hu⟩ := Paired.get? (i := i) hP ei
      obtain rfl : v' = v := Option.some.inj (hv'.symm.trans hi)
      subst ev
      have hmem := List.mem_of_getElem? ei
      generalize os[i] = o at ei hu hmem
      obtain ⟨b1, b2, b3, b4, b5⟩ := od_le nok hmem
      have c1 := (nT_ok b1).2.2.1
      have c2 := (nT_ok b2).2.2.1
      have c3 := (nT_ok b3).2.2.1
      have c4 := (nT_ok b4).2.2.1
      have c5 := (nT_ok b5).2.2.1
      have sL := same_upd (o := HO.lst ((lineNet p h :: (os.take i).map lineOrd).map V.str)) nL
      refine ⟨u, _, rfl, SqT.of (sL _ _ hu), rfl, _, _, rfl, _, _, rfl, _, _, rfl, _, _, rfl, _, _, rfl, rfl, ?_⟩
      refine ⟨_, rfl, .inl ⟨rfl, _, SqL.of upd_same⟩, ?_⟩
      refine ⟨_, rfl, by rw [len_ord6, sizeLine_eq]; omega, _, rfl, .inr ⟨_, rfl, log_small b1, nT o.s, rfl, by rw [len_app, len_ord6, sizeLine_eq]; omega, _, rfl, by rw [len_app, len_app, len_ord6, len_sp, sizeLine_eq]; omega, ?_⟩⟩
      refine ⟨_, rfl, .inr ⟨_, rfl, log_small b2, nT o.t, rfl, by rw [len_app, len_app, len_app, len_ord6, len_sp, sizeLine_eq]; omega, _, rfl, by rw [len_app, len_app, len_app, len_app, len_ord6, len_sp, sizeLine_eq]; omega, ?_⟩⟩
      refine ⟨_, rfl, .inr ⟨_, rfl, log_small b3, nT o.f, rfl, by rw [len_app, len_app, len_app, len_app, len_app, len_ord6, len_sp, sizeLine_eq]; omega, _, rfl, by rw [len_app, len_app, len_app, len_app, len_app, len_app, len_ord6, len_sp, sizeLine_eq]; omega, ?_⟩⟩
      refine ⟨_, rfl, .inr ⟨_, rfl, log_small b4, nT o.n, rfl, by rw [len_app, len_app, len_app, len_app, len_app, len_app, len_app, len_ord6, len_sp, sizeLine_eq]; omega, _, rfl, by rw [len_app, len_app, len_app, len_app, len_app, len_app, len_app, len_app, len_ord6, len_sp, sizeLine_eq]; omega, ?_⟩⟩
      refine ⟨_, rfl, .inr ⟨_, rfl, log_small b5, nT o.e, rfl, by rw [len_app, len_app, len_app, len_app, len_app, len_app, len_app, len_app, len_app, len_ord6, len_sp, sizeLine_eq]; omega, ?_⟩⟩
      refine ⟨L, _, _, rfl, rfl, upd_same, ?_, ⟨_, _, _, _, _, rfl⟩, ?_⟩
      · rw [List.length_map, List.length_cons, List.length_map, List.length_take]
        exact small1000 (by omega)
      · rw [upd_upd, List.take_add_one, ei]
        have e2 : ((((((((((Str.empty ++ "order " : Str) ++ nT o.s) ++ " ") ++ nT o.t) ++ " ") ++ nT o.f) ++ " ") ++ nT o.n) ++ " ") ++ nT o.e) = lineOrd o := by
          unfold lineOrd wordsO
          rw [join6, cat_order]
        show upd H L (.lst (((lineNet p h :: (os.take i).map lineOrd).map V.str) ++ [V.str ((((((((((Str.empty ++ "order " : Str) ++ nT o.s) ++ " ") ++ nT o.t) ++ " ") ++ nT o.f) ++ " ") ++ nT o.n) ++ " ") ++ nT o.e)])) = _
        rw [e2, Option.toList_some, List.map_append, List.map_cons, List.map_cons, List.map_append]
        rfl
    · rintro σ H1 ⟨⟨x2, x3, x4, x5, x6, rfl⟩, rfl⟩
      rw [hP.length, List.take_length]
      refine ⟨⟨_, rfl⟩, _, rfl, "\n", L, linesOf p h os, rfl, rfl, .inl (SqL.of upd_same), ?_, q _ (same_upd nL)⟩
      have h1 := lines_sum nok
      have h2 : ("\n" : Str).length = 1 := by decide +kernel
      have h3 : (linesOf p h os).length ≤ 21 := by
        show (os.map lineOrd).length.succ ≤ 21
        rw [List.length_map]
        omega
      rw [h2]
      omega
end
abbrev s_Net_parse : Stmt := inClass (top 30) 6
abbrev N_Net_parse : List Str := ["cls", "text", "rows", "period", "houses"]
abbrev P_Net_parse : List Str := ["cls", "text"]
theorem sc_Net_parse : FnScope N_Net_parse P_Net_parse (defScope s_Net_parse) := ⟨rfl, rfl, rfl, by decide +kernel, rfl, by decide +kernel, by decide +kernel⟩
/-! ### a net of its text -/
section
variable {P : Program} {w : World} {K : PySem.W.Frag} {mg : Str → Option Value} {base : Heap}
/-- a net of its text -/
def spParse (C : Addr) : Sp := fun vs H Q _ => ∃ (p h : Nat) (os : List Od), vs = [.ref C, .str (textOf p h os)] ∧ NetOk p h os ∧ ∀ H' x t F, Same H H' → (∀ b ∈ F, H b = none) → NetAt C H' x p h os t F → Q (.ref x) H'
def rowsOf (p h : Nat) (os : List Od) : List (List Nat) := [p, h] :: os.map fun o => [o.s, o.t, o.f, o.n, o.e]
theorem lines_ok {p h : Nat} {os : List Od} (k : NetOk p h os) : ∀ i l r, (linesOf p h os)[i]? = some l → (rowsOf p h os)[i]? = some r → LineOk i l r := by
  have hp30 := k.p30; have hh10 := k.h10
  intro i l r hl hr
  cases i with
  | zero =>
    obtain rfl : lineNet p h = l := Option.some.inj hl
    obtain rfl : [p, h] = r := Option.some.inj hr
    refine ⟨"net", [nT p, nT h], [some p, some h], Nat.le_trans (len_net hp30 (by omega)) (by decide), split_net hp30 (by omega), by show 2 ≤ 60; decide, .cons (wk_nT hp30) (.cons (wk_nT (by omega)) .nil), ?_⟩
    rfl
  | succ i =>
    have h1 : (os.map lineOrd)[i]? = some l := hl
    have h2 : (os.map fun o => [o.s, o.t, o.f, o.n, o.e])[i]? = some r := hr
    rw [List.getElem?_map] at h1 h2
    obtain ⟨o, ho, rfl⟩ := Option.map_eq_some_iff.mp h1
    rw [ho] at h2
    obtain rfl : [o.s, o.t, o.f, o.n, o.e] = r := Option.some.inj h2
    have hm := List.mem_of_getElem? ho
    obtain ⟨b1, b2, b3, b4, b5⟩ := od_le k hm
    refine ⟨"order", wordsO o, [some o.s, some o.t, some o.f, some o.n, some o.e], Nat.le_trans (len_ord k hm) (by decide), split_ord k hm, by show 5 ≤ 60; decide, .cons (wk_nT b1) (.cons (wk_nT b2) (.cons (wk_nT b3) (.cons (wk_nT b4) (.cons (wk_nT b5) .nil)))), ?_⟩
    rw [if_neg (Nat.succ_ne_zero i), if_neg (Nat.succ_ne_zero i)]
    rfl
theorem rows_ords {H : Hp} {us : List V} {os : List Od} (h : Paired (RowTup H) us (os.map fun o => [o.s, o.t, o.f, o.n, o.e])) : Paired (OrdAt H) us os := by
  induction os generalizing us with
  | nil =>
    cases h
    exact .nil
  | cons o os ih =>
    rw [List.map_cons] at h
    cases h with
    | cons r t =>
      obtain ⟨u, rfl, hu⟩ := r
      exact .cons ⟨u, rfl, hu⟩ (ih t)
theorem ok_parse {f C fI : Addr} {fd fdI : FuncData} (F : Fun K "parse" "Net.parse" s_Net_parse f fd) (B : Blt mg) (DR : Df P w K mg base "read_rows" 4 P_read_rows spRows) (M : Mk K C fI) (GI : FnOk P w K mg base CX0 5 fI fdI P_Net_init (spInit C)) (bI : Binds K fdI P_Net_init []) : FnOk P w K mg base CX0 7 f fd P_Net_parse (spParse C) := by
  obtain ⟨fR, fdR, gR, kR, bR, GR⟩ := DR
  refine F.ok sc_Net_parse (fun vs H Q E h => ?_) (fun cdv A outer s H vs Q E hr h => ?_)
  · obtain ⟨p, h, os, rfl, _⟩ := h
    rfl
  · obtain ⟨p, h, os, rfl, nok, q⟩ := h
    have hr3 : Room 4 _ := hr.mono (by decide)
    refine ⟨_, pss_cons (ps_set (i := 2) sc_Net_parse.nd rfl (.inl rfl) (pe_call GR hr3 (by rfl) gR kR bR .nil pass0 (pa_cons (pv 1) pa_nil)))
      (pss_cons (ps_asg (pe_ix ix_list (pv 2) pe_int (fun _ _ => rfl)) (pg_tup (by rfl) (pgs_cons (pg_name (i := 3) sc_Net_parse.nd rfl (.inl rfl)) (pgs_cons (pg_name (i := 4) sc_Net_parse.nd rfl (.inl rfl)) pgs_nil))))
      (pss_one (ps_ret (pe_makeL (i := 0) M GI hr rfl (.inl rfl) bI .nil pass0 (pa_cons (pv 3) (pa_cons (pv 4) (pa_cons (pe_callTy call_tuple_of (by rfl) B.tuple (by decide +kernel) (pa_cons (pe_slice sl_list (pv 2) (po_some pe_int) po_none) pa_nil)) pa_nil))))))), ?_⟩
    have hrl : (rowsOf p h os).length ≤ 100 := by
      show (os.map _).length.succ ≤ 100
      rw [List.length_map]
      have := nok.len
      omega
    refine ⟨_, rfl, textOf p h os, linesOf p h os, rowsOf p h os, rfl, Nat.le_trans (len_text nok) (by decide), split_text nok, ?_, hrl, lines_ok nok, fun H1 r us s1 nr hr1 hus => ?_⟩
    · show (os.map lineOrd).length.succ = (os.map _).length.succ
      rw [List.length_map, List.length_map]
    cases hus with
    | cons hu0 hus =>
    rename_i v0 us
    obtain ⟨u0, rfl, hu0⟩ := hu0
    refine ⟨_, rfl, r, _, 0, _, rfl, rfl, SqL.of hr1, atI_nat (j := 0) rfl, u0, _, rfl, SqT.of hu0, rfl, _, _, rfl, _, _, rfl, rfl, ?_⟩
    refine ⟨rfl, _, rfl, _, rfl, _, rfl, 1, rfl, r, _, rfl, SqL.of hr1, fun cl ncl => ?_⟩
    rw [show cutV (V.ref u0 :: us) (some (1 : Int)) none = (V.ref u0 :: us).drop 1 from cut_from (n := 1)]
    have s2 := same_upd (o := HO.lst ((V.ref u0 :: us).drop 1)) ncl
    refine ⟨cl, us, rfl, .inl ⟨SqL.of upd_same, fun tt ntt => ?_⟩⟩
    have s3 := same_upd (o := HO.tup us) ntt
    have s13 := s1.trans (s2.trans s3)
    have hO : OrdsTup (upd (upd H1 cl (.lst ((V.ref u0 :: us).drop 1))) tt (.tup us)) tt os := ⟨us, upd_same, Paired.mapP (rows_ords hus) fun _ _ z => z.keep (tk_of (s2.trans s3))⟩
    generalize (upd (upd H1 cl (.lst ((V.ref u0 :: us).drop 1))) tt (.tup us)) = H3 at s13 hO
    intro x dx nx ndx nex
    have s0 : Same H3 (upd (upd H3 dx (.own x)) x (.ins C dx [])) := same_updN (same_upd ndx) nx
    exact ⟨x, dx, tt, p, h, os, H3, rfl, nok, hO.keep (tk_of s0), s0, nx, upd_same, fun H' F s1 nF N => ⟨rfl, q H' x tt F (s13.trans s1) (fun b hb => s13.free (nF b hb)) N⟩⟩
end
abbrev s_check_index : Stmt := top 22
abbrev N_check_index : List Str := ["orders", "index"]
abbrev P_check_index : List Str := ["orders", "index"]
theorem sc_check_index : FnScope N_check_index P_check_index (defScope s_check_index) := ⟨rfl, rfl, rfl, by decide +kernel, rfl, by decide +kernel, by decide +kernel⟩
def spChkIx : Sp := fun vs H Q _ => ∃ (t : Addr) (k : Nat) (ts : List V), vs = [.ref t, .int k] ∧ H t = some (.tup ts) ∧ k < ts.length ∧ Q .non H
section
variable {P : Program} {w : World} {K : PySem.W.Frag} {mg : Str → Option Value} {base : Heap}
theorem ok_chk_ix {f : Addr} {fd : FuncData} (F : Fun K "check_index" "check_index" s_check_index f fd) (B : Blt mg) (DW : Df P w K mg base "is_within" 2 P_is_within (spWithin K)) : FnOk P w K mg base CX0 3 f fd P_check_index spChkIx := by
  obtain ⟨fW, fdW, gW, kW, bW, GW⟩ := DW
  refine F.ok sc_check_index (fun vs H Q E h => ?_) (fun cdv A outer s H vs Q E hr h => ?_)
  · obtain ⟨t, k, ts, rfl, _⟩ := h
    rfl
  · obtain ⟨t, k, ts, rfl, ht, hk, q⟩ := h
    refine ⟨_, pss_one (ps_if (pt_not (pt_val (pe_call GW hr (by rfl) gW kW bW .nil pass0 (pa_cons (pv 1) (pa_cons pe_int (pa_cons (pe_op op_sub (pe_callB call_len_seq (by rfl) B.len PySem.boot_len (pa_cons (pv 0) pa_nil)) pe_int) pa_nil)))))) (pss_one ps_never) pss_nil), ?_⟩
    have e1 : ((ts.length : Int) - 1) = ((ts.length - 1 : Nat) : Int) := by omega
    refine ⟨_, rfl, _, rfl, t, _, rfl, .inr (SqT.of ht), _, _, rfl, rfl, _, 0, ((ts.length - 1 : Nat) : Int), congrArg (fun z : Int => [V.int (k : Nat), V.int 0, V.int z]) e1, .int, _, rfl, ?_⟩
    rw [show withinB (.int (k : Nat)) 0 ((ts.length - 1 : Nat) : Int) = true from within_nat (lo := 0) (by omega) (by omega)]
    exact iteF q
end
abbrev s_Office_init : Stmt := inClass (top 40) 0
abbrev N_Office_init : List Str := ["self", "net"]
abbrev P_Office_init : List Str := ["self", "net"]
theorem sc_Office_init : FnScope N_Office_init P_Office_init (defScope s_Office_init) := ⟨rfl, rfl, rfl, by decide +kernel, rfl, by decide +kernel, by decide +kernel⟩
abbrev s_Office_present_orders : Stmt := inClass (top 40) 7
abbrev N_Office_present_orders : List Str := ["self"]
abbrev P_Office_present_orders : List Str := ["self"]
theorem sc_Office_present_orders : FnScope N_Office_present_orders P_Office_present_orders (defScope s_Office_present_orders) := ⟨rfl, rfl, rfl, by decide +kernel, rfl, by decide +kernel, by decide +kernel⟩
abbrev s_Office_take_step : Stmt := inClass (top 40) 13
abbrev N_Office_take_step : List Str := ["self", "word", "orders"]
abbrev P_Office_take_step : List Str := ["self", "word", "orders"]
theorem sc_Office_take_step : FnScope N_Office_take_step P_Office_take_step (defScope s_Office_take_step) := ⟨rfl, rfl, rfl, by decide +kernel, rfl, by decide +kernel, by decide +kernel⟩
/-! ### an office: its state, its present orders, a step -/
structure OffT (K : PySem.W.Frag) (O : Addr) : Prop where
  cl : Cls K O
  nN : NoAttr K O "net"
  nS : NoAttr K O "steps"
  nE : NoAttr K O "effective"
  nP : NoAttr K O "snapshots"
theorem sSN : ¬ ("steps" : Str) = "net" := by decide +kernel
theorem sEN : ¬ ("effective" : Str) = "net" := by decide +kernel
theorem sPN : ¬ ("snapshots" : Str) = "net" := by decide +kernel
theorem sES : ¬ ("effective" : Str) = "steps" := by decide +kernel
theorem sPS : ¬ ("snapshots" : Str) = "steps" := by decide +kernel
theorem sPE : ¬ ("snapshots" : Str) = "effective" := by decide +kernel
theorem put_len {f : Str} {v w : V} : ∀ {fs : List (Str × V)}, fs.lookup f = some w → (putF f v fs).length = fs.length
  | [], h => by cases h
  | (g, x) :: r, h => by
    by_cases e : g = f
    · subst e
      show (if g = g then _ else _ : List (Str × V)).length = _
      rw [if_pos rfl]
      rfl
    · show (if g = f then _ else _ : List (Str × V)).length = _
      rw [if_neg e]
      have hb : (f == g) = false := beq_eq_false_iff_ne.mpr (Ne.symm e)
      rw [List.lookup_cons, hb] at h
      show (putF f v r).length + 1 = _
      rw [put_len h]
      rfl
structure OfR (fs : List (Str × V)) (x u : Addr) (e : Nat) (sn : Addr) : Prop where
  len : fs.length ≤ 4
  net : fs.lookup ("net" : Str) = some (.ref x)
  st : fs.lookup ("steps" : Str) = some (.ref u)
  ef : fs.lookup ("effective" : Str) = some (.int e)
  sn : fs.lookup ("snapshots" : Str) = some (.ref sn)
  no : ∀ m : Str, ¬ m = "net" → ¬ m = "steps" → ¬ m = "effective" → ¬ m = "snapshots" → fs.lookup m = none
theorem OfR.setS {fs : List (Str × V)} {x u u' : Addr} {e : Nat} {sn : Addr} (R : OfR fs x u e sn) : OfR (putF "steps" (.ref u') fs) x u' e sn :=
  ⟨by rw [put_len R.st]; exact R.len, by rw [lookup_putF, if_neg (Ne.symm sSN)]; exact R.net, by rw [lookup_putF, if_pos rfl], by rw [lookup_putF, if_neg sES]; exact R.ef, by rw [lookup_putF, if_neg sPS]; exact R.sn,
   fun m a b c d => by rw [lookup_putF, if_neg b]; exact R.no m a b c d⟩
theorem OfR.setE {fs : List (Str × V)} {x u : Addr} {e e' : Nat} {sn : Addr} (R : OfR fs x u e sn) : OfR (putF "effective" (.int e') fs) x u e' sn :=
  ⟨by rw [put_len R.ef]; exact R.len, by rw [lookup_putF, if_neg (Ne.symm sEN)]; exact R.net, by rw [lookup_putF, if_neg (Ne.symm sES)]; exact R.st, by rw [lookup_putF, if_pos rfl], by rw [lookup_putF, if_neg sPE]; exact R.sn,
   fun m a b c d => by rw [lookup_putF, if_neg c]; exact R.no m a b c d⟩
theorem ofr_new {x u sn : Addr} : OfR (putF "snapshots" (.ref sn) (putF "effective" (.int (0 : Nat)) (putF "steps" (.ref u) (putF "net" (.ref x) [])))) x u 0 sn := by
  have l1 : ∀ (f : Str) (v : V) (fs : List (Str × V)), (putF f v fs).length ≤ fs.length + 1 := fun f v fs => length_putF f v fs
  refine ⟨?_, ?_, ?_, ?_, ?_, fun m a b c d => ?_⟩
  · have a1 := l1 "snapshots" (.ref sn) (putF "effective" (.int (0 : Nat)) (putF "steps" (.ref u) (putF "net" (.ref x) [])))
    have a2 := l1 "effective" (.int (0 : Nat)) (putF "steps" (.ref u) (putF "net" (.ref x) []))
    have a3 := l1 "steps" (.ref u) (putF "net" (.ref x) [])
    have a4 : (putF "net" (V.ref x) []).length = 1 := rfl
    omega
  · rw [lookup_putF, if_neg (Ne.symm sPN), lookup_putF, if_neg (Ne.symm sEN), lookup_putF, if_neg (Ne.symm sSN), lookup_putF, if_pos rfl]
  · rw [lookup_putF, if_neg (Ne.symm sPS), lookup_putF, if_neg (Ne.symm sES), lookup_putF, if_pos rfl]
  · rw [lookup_putF, if_neg (Ne.symm sPE), lookup_putF, if_pos rfl]
  · rw [lookup_putF, if_pos rfl]
  · rw [lookup_putF, if_neg d, lookup_putF, if_neg c, lookup_putF, if_neg b, lookup_putF, if_neg a]
    rfl
abbrev Stp := Str × List Od
def StepV (H : Hp) (v : V) (s : Stp) : Prop := ∃ a t, v = .ref a ∧ H a = some (.tup [.str s.1, .ref t]) ∧ OrdsTup H t s.2
theorem StepV.keep {H H' : Hp} {v : V} {s : Stp} (k : TupKeep H H') (h : StepV H v s) : StepV H' v s := by
  obtain ⟨a, t, rfl, ha, ho⟩ := h
  exact ⟨a, t, rfl, k _ _ ha, ho.keep k⟩
/-- the orders in effect -/
def curO (os : List Od) (st : List Stp) (e : Nat) : List Od := if e = 0 then os else ((st[e - 1]?).map (·.2)).getD os
structure OffS where
  x : Addr
  t : Addr
  p : Nat
  h : Nat
  os : List Od
  F : List Addr
  st : List Stp
  e : Nat
  sn : Addr
def OffS.cur (S : OffS) : List Od := curO S.os S.st S.e
def OffAt (O C : Addr) (H : Hp) (o : Addr) (S : OffS) : Prop := ∃ dx fs u vs, H o = some (.ins O dx fs) ∧ OfR fs S.x u S.e S.sn ∧ H u = some (.tup vs) ∧ Paired (StepV H) vs S.st ∧ S.e ≤ S.st.length ∧ NetAt C H S.x S.p S.h S.os S.t S.F ∧ o ∉ S.F
theorem tk_ins {H H' : Hp} {o O dx : Addr} {fs : List (Str × V)} (b : But o H H') (h : H o = some (.ins O dx fs)) : TupKeep H H' := fun a xs e => b a _ (ne_of e h (by intro z; cases z)) e
theorem OffAt.same {O C : Addr} {H H' : Hp} {o : Addr} {S : OffS} (A : OffAt O C H o S) (s : Same H H') : OffAt O C H' o S := by
  obtain ⟨dx, fs, u, vs, h1, R, h2, hP, h3, N, h4⟩ := A
  exact ⟨dx, fs, u, vs, s _ _ h1, R, s _ _ h2, Paired.mapP hP fun _ _ z => z.keep (tk_of s), h3, N.same s, h4⟩
theorem OffAt.but {O C : Addr} {H H' : Hp} {o d : Addr} {S : OffS} (A : OffAt O C H o S) (b : But d H H') (k : TupKeep H H') (n1 : o ≠ d) (n2 : d ∉ S.F) : OffAt O C H' o S := by
  obtain ⟨dx, fs, u, vs, h1, R, h2, hP, h3, N, h4⟩ := A
  exact ⟨dx, fs, u, vs, b _ _ n1 h1, R, k _ _ h2, Paired.mapP hP fun _ _ z => z.keep k, h3, N.but b k n2, h4⟩
def spOInit (O C : Addr) : Sp := fun vs H Q _ => ∃ (o dx x t : Addr) (p h : Nat) (os : List Od) (F : List Addr) (H0 : Hp), vs = [.ref o, .ref x] ∧ NetAt C H0 x p h os t F ∧ Same H0 H ∧ H0 o = none ∧ H o = some (.ins O dx []) ∧
  ∀ H' sn, Same H0 H' → OffAt O C H' o ⟨x, t, p, h, os, F, [], 0, sn⟩ → Q .non H'
def spPres (O C : Addr) : Sp := fun vs H Q _ => ∃ (o : Addr) (S : OffS), vs = [.ref o] ∧ OffAt O C H o S ∧ ∀ t', OrdsTup H t' S.cur → Q (.ref t') H
def spTake (O C : Addr) : Sp := fun vs H Q _ => ∃ (o t' : Addr) (w : Str) (os' : List Od) (S : OffS), vs = [.ref o, .str w, .ref t'] ∧ OffAt O C H o S ∧ S.st.length ≤ 900 ∧ OrdsTup H t' os' ∧
  ∀ H', But o H H' → OffAt O C H' o { S with st := S.st.take S.e ++ [(w, os')], e := S.e + 1 } → Q .non H'
section
variable {P : Program} {w : World} {K : PySem.W.Frag} {mg : Str → Option Value} {base : Heap}
theorem ok_off_init {f O C : Addr} {fd : FuncData} (F : Fun K "__init__" "Office.__init__" s_Office_init f fd) (T : OffT K O) : FnOk P w K mg base CX0 1 f fd P_Office_init (spOInit O C) := by
  refine F.ok sc_Office_init (fun vs H Q E h => ?_) (fun cdv A outer s H vs Q E hr h => ?_)
  · obtain ⟨o, dx, x, t, p, h, os, F, H0, rfl, _⟩ := h
    rfl
  · obtain ⟨o, dx, x, t, p, h, os, F, H0, rfl, Nt, s0, o0, ho, q⟩ := h
    refine ⟨_, pss_cons (ps_fld (pv 0) (pv 1) rfl) (pss_cons (ps_fld (pv 0) (pe_tup pa_nil) rfl) (pss_cons (ps_fld (pv 0) pe_int rfl) (pss_one (ps_fld (pv 0) pe_dnewK rfl)))), ?_⟩
    refine ⟨_, rfl, _, rfl, o, O, dx, [], rfl, ho, T.cl, T.nN, (by show 0 < 1000; decide), ?_⟩
    refine ⟨(by show 0 ≤ sizeLine; decide), fun u nu => ⟨_, rfl, o, O, dx, putF "net" (.ref x) [], rfl, ?_, T.cl, T.nS, (by show 1 < 1000; decide), ?_⟩⟩
    · rw [upd_ne (fun z => by rw [← z, upd_same] at nu; cases nu), upd_same]
    have nou : o ≠ u := fun z => by
      rw [← z, upd_same] at nu
      cases nu
    have nuH : H u = none := by
      rw [upd_ne (Ne.symm nou)] at nu
      exact nu
    have l1 : (putF "steps" (V.ref u) (putF "net" (V.ref x) [])).length ≤ 2 := length_putF "steps" (V.ref u) (putF "net" (V.ref x) [])
    refine ⟨_, rfl, o, O, dx, _, rfl, upd_same, T.cl, T.nE, by omega, ?_⟩
    have l2 : (putF "effective" (V.int 0) (putF "steps" (V.ref u) (putF "net" (V.ref x) []))).length ≤ 3 := Nat.le_trans (length_putF "effective" (V.int 0) (putF "steps" (V.ref u) (putF "net" (V.ref x) []))) (by omega)
    refine fun d nd => ⟨_, rfl, o, O, dx, _, rfl, (upd_ne (fun z => by rw [← z, upd_same] at nd; cases nd)).trans upd_same, T.cl, T.nP, by omega, ?_⟩
    have nod : o ≠ d := fun z => by
      rw [← z, upd_same] at nd
      cases nd
    have nud : u ≠ d := fun z => by
      rw [← z, upd_ne (Ne.symm nou), upd_ne (Ne.symm nou), upd_same] at nd
      cases nd
    have ndH : H d = none := by
      rw [upd_ne (Ne.symm nod), upd_ne (Ne.symm nod), upd_ne (Ne.symm nud), upd_ne (Ne.symm nod)] at nd
      exact nd
    refine q _ d ?_ ?_
    · intro b z e
      have e1 := s0 _ _ e
      have b1 : b ≠ o := ne_of_none e o0
      rw [upd_ne b1, upd_ne (ne_of_none e1 ndH), upd_ne b1, upd_ne b1, upd_ne (ne_of_none e1 nuH), upd_ne b1]
      exact e1
    · refine ⟨dx, _, u, [], upd_same, ofr_new, ?_, .nil, Nat.le_refl _, Nt.same ?_, Nt.new o0⟩
      · rw [upd_ne (Ne.symm nou), upd_ne nud, upd_ne (Ne.symm nou), upd_ne (Ne.symm nou), upd_same]
      · intro b z e
        have e1 := s0 _ _ e
        have b1 : b ≠ o := ne_of_none e o0
        rw [upd_ne b1, upd_ne (ne_of_none e1 ndH), upd_ne b1, upd_ne b1, upd_ne (ne_of_none e1 nuH), upd_ne b1]
        exact e1
theorem ok_pres {f O C : Addr} {fd : FuncData} (F : Fun K "present_orders" "Office.present_orders" s_Office_present_orders f fd) (T : OffT K O) (TN : NetT K C) : FnOk P w K mg base CX0 1 f fd P_Office_present_orders (spPres O C) := by
  refine F.ok sc_Office_present_orders (fun vs H Q E h => ?_) (fun cdv A outer s H vs Q E hr h => ?_)
  · obtain ⟨o, S, rfl, _⟩ := h
    rfl
  · obtain ⟨o, S, rfl, ⟨dx, fs, u, vs, ho, R, hu, hP, he, N, no⟩, q⟩ := h
    refine ⟨_, pss_cons (ps_if (pt_cmpR op_eq (pe_fld (pv 0) rfl) pe_int (nomark _)) (pss_one (ps_ret (pe_fld (pe_fld (pv 0) rfl) rfl))) pss_nil)
      (pss_one (ps_ret (pe_ix ix_tup (pe_ix ix_tup (pe_fld (pv 0) rfl) (pe_op op_sub (pe_fld (pv 0) rfl) pe_int) (fun _ _ => rfl)) pe_int (fun _ _ => rfl)))), ?_⟩
    obtain ⟨dx2, fl, as, _, hx, hO, _⟩ := id N
    refine ⟨_, rfl, o, O, dx, fs, _, rfl, ho, T.cl, T.nE, R.ef, rfl, _, rfl, ite2 (fun c => ?_) (fun c => ?_)⟩
    · have e0 : S.e = 0 := by
        have := V.int.inj (of_decide_eq_true c)
        omega
      refine ⟨_, rfl, o, O, dx, fs, _, rfl, ho, T.cl, T.nN, R.net, S.x, C, dx2, _, _, rfl, hx, TN.cl, TN.nO, nf_or, q S.t ?_⟩
      unfold OffS.cur curO
      rw [if_pos e0]
      exact hO
    · have e1 : S.e ≠ 0 := fun z => c (decide_eq_true (by rw [z]; rfl))
      have lt : S.e - 1 < S.st.length := by omega
      have es := List.getElem?_eq_getElem lt
      obtain ⟨v, hv, a, t', rfl, ha, ho'⟩ := Paired.get? (i := S.e - 1) hP es
      have ee : ((S.e : Int) - 1) = ((S.e - 1 : Nat) : Int) := by omega
      refine ⟨_, rfl, o, O, dx, fs, _, rfl, ho, T.cl, T.nS, R.st, _, rfl, o, O, dx, fs, _, rfl, ho, T.cl, T.nE, R.ef, _, _, rfl, rfl, u, vs, ((S.e - 1 : Nat) : Int), _, rfl, congrArg V.int ee, SqT.of hu, atI_nat (j := S.e - 1) hv, ?_⟩
      refine ⟨a, _, 1, _, rfl, rfl, SqT.of ha, atI_nat (j := 1) rfl, q t' ?_⟩
      unfold OffS.cur curO
      rw [if_neg e1, es]
      exact ho'
theorem ok_take {f O C : Addr} {fd : FuncData} (F : Fun K "take_step" "Office.take_step" s_Office_take_step f fd) (T : OffT K O) : FnOk P w K mg base CX0 1 f fd P_Office_take_step (spTake O C) := by
  refine F.ok sc_Office_take_step (fun vs H Q E h => ?_) (fun cdv A outer s H vs Q E hr h => ?_)
  · obtain ⟨o, t', w, os', S, rfl, _⟩ := h
    rfl
  · obtain ⟨o, t', w', os', S, rfl, ⟨dx, fs, u, vs, ho, R, hu, hP, he, N, no⟩, hl, hO, q⟩ := h
    refine ⟨_, pss_cons (ps_fld (pv 0) (pe_op op_catA (pe_slice sl_tupA (pe_fld (pv 0) rfl) po_none (po_some (pe_fld (pv 0) rfl))) (pe_tup (pa_cons (pe_tup (pa_cons (pv 1) (pa_cons (pv 2) pa_nil))) pa_nil))) rfl)
      (pss_one (ps_fldaug (pv 0) pe_int iop_add)), ?_⟩
    refine ⟨_, rfl, o, O, dx, fs, _, rfl, ho, T.cl, T.nS, R.st, _, rfl, o, O, dx, fs, _, rfl, ho, T.cl, T.nE, R.ef, (S.e : Nat), rfl, ?_⟩
    refine slA_case hu fun b1 H1 s1 hb1 => ?_
    rw [cut_to] at hb1
    refine ⟨_, rfl, _, rfl, (by show 2 ≤ sizeLine; decide), fun a1 na1 => ?_⟩
    have s2 := same_upd (o := HO.tup [.str w', .ref t']) na1
    have ha1 : (upd H1 a1 (.tup [.str w', .ref t'])) a1 = some (.tup [.str w', .ref t']) := upd_same
    have hb2 := s2 _ _ hb1
    generalize (upd H1 a1 (.tup [.str w', .ref t'])) = H2 at s2 ha1 hb2
    refine ⟨(by show 1 ≤ sizeLine; decide), fun a2 na2 => ?_⟩
    have s3 := same_upd (o := HO.tup [.ref a1]) na2
    have ha2 : (upd H2 a2 (.tup [.ref a1])) a2 = some (.tup [.ref a1]) := upd_same
    have hb3 := s3 _ _ hb2
    have ha13 := s3 _ _ ha1
    generalize (upd H2 a2 (.tup [.ref a1])) = H3 at s3 ha2 hb3 ha13
    have hlt : (vs.take S.e).length + 1 ≤ sizeLine := by
      rw [List.length_take, hP.length]
      exact Nat.le_of_lt (small1000 (by omega))
    refine catA_case hb3 ha2 hlt fun c H4 s4 hc => ?_
    have sA := s1.trans (s2.trans (s3.trans s4))
    have ho4 := sA _ _ ho
    refine ⟨_, rfl, o, O, dx, fs, rfl, ho4, T.cl, T.nS, by have := R.len; omega, ?_⟩
    refine ⟨_, rfl, o, O, dx, _, _, rfl, upd_same, T.cl, T.nE, R.setS.ef, _, _, rfl, rfl, dx, _, upd_same, by have := (R.setS (u' := c)).len; omega, ?_⟩
    rw [upd_upd]
    have R2 := (R.setS (u' := c)).setE (e' := S.e + 1)
    have bO : But o H (upd H4 o (.ins O dx (putF "effective" (.int ((S.e + 1 : Nat) : Int)) (putF "steps" (.ref c) fs)))) := fun b z n e => by
      rw [upd_ne n]
      exact sA _ _ e
    have k : TupKeep H4 (upd H4 o (.ins O dx (putF "effective" (.int ((S.e + 1 : Nat) : Int)) (putF "steps" (.ref c) fs)))) := fun b xs e => by
      rw [upd_ne (ne_of e ho4 (by intro z; cases z))]
      exact e
    refine q _ bO ⟨dx, _, c, _, upd_same, R2, k _ _ hc, ?_, ?_, (N.same sA).but But.upd k no, no⟩
    · refine Paired.app (Paired.take (Paired.mapP hP fun _ _ z => (z.keep (tk_of sA)).keep k) S.e) (.cons ⟨a1, t', rfl, k _ _ (s4 _ _ ha13), (hO.keep (tk_of sA)).keep k⟩ .nil)
    · show S.e + 1 ≤ (S.st.take S.e ++ [(w', os')]).length
      rw [List.length_append, List.length_take, List.length_singleton]
      omega
end
abbrev s_Office_undo : Stmt := inClass (top 40) 5
abbrev N_Office_undo : List Str := ["self"]
abbrev P_Office_undo : List Str := ["self"]
theorem sc_Office_undo : FnScope N_Office_undo P_Office_undo (defScope s_Office_undo) := ⟨rfl, rfl, rfl, by decide +kernel, rfl, by decide +kernel, by decide +kernel⟩
/-! ### undo -/
def spUndo (O C : Addr) : Sp := fun vs H Q _ => ∃ (o : Addr) (S : OffS), vs = [.ref o] ∧ OffAt O C H o S ∧ (S.e = 0 → Q (.bl false) H) ∧
  (S.e ≠ 0 → ∀ H', But o H H' → OffAt O C H' o { S with e := S.e - 1 } → Q (.bl true) H')
section
variable {P : Program} {w : World} {K : PySem.W.Frag} {mg : Str → Option Value} {base : Heap}
theorem ok_undo {f O C : Addr} {fd : FuncData} (F : Fun K "undo" "Office.undo" s_Office_undo f fd) (T : OffT K O) : FnOk P w K mg base CX0 1 f fd P_Office_undo (spUndo O C) := by
  refine F.ok sc_Office_undo (fun vs H Q E h => ?_) (fun cdv A outer s H vs Q E hr h => ?_)
  · obtain ⟨o, S, rfl, _⟩ := h
    rfl
  · obtain ⟨o, S, rfl, ⟨dx, fs, u, vs, ho, R, hu, hP, he, N, no⟩, q0, q1⟩ := h
    refine ⟨_, pss_cons (ps_if (pt_cmpR op_eq (pe_fld (pv 0) rfl) pe_int (nomark _)) (pss_one (ps_ret pe_bl)) pss_nil)
      (pss_cons (ps_fldaug (pv 0) pe_int iop_sub)
      (pss_one (ps_ret pe_bl))), ?_⟩
    refine ⟨_, rfl, o, O, dx, fs, _, rfl, ho, T.cl, T.nE, R.ef, rfl, _, rfl, ite2 (fun c => ?_) (fun c => ?_)⟩
    · refine q0 ?_
      have := V.int.inj (of_decide_eq_true c)
      omega
    · have e1 : S.e ≠ 0 := fun z => c (decide_eq_true (by rw [z]; rfl))
      have ee : ((S.e : Int) - 1) = ((S.e - 1 : Nat) : Int) := by omega
      refine ⟨_, rfl, o, O, dx, fs, _, rfl, ho, T.cl, T.nE, R.ef, _, _, rfl, rfl, dx, fs, ho, by have := R.len; omega, ?_⟩
      have R2 := R.setE (e' := S.e - 1)
      rw [← ee] at R2
      have k : TupKeep H (upd H o (.ins O dx (putF "effective" (.int ((S.e : Int) - 1)) fs))) := fun b xs e => by
        rw [upd_ne (ne_of e ho (by intro z; cases z))]
        exact e
      rw [ee] at R2
      refine q1 e1 _ But.upd ?_
      have R3 := R.setE (e' := S.e - 1)
      refine ⟨dx, (putF "effective" (.int ((S.e : Int) - 1)) fs), u, vs, upd_same, by rw [ee]; exact R3, k _ _ hu, Paired.mapP hP fun _ _ z => z.keep k, ?_, N.but But.upd k no, no⟩
      show S.e - 1 ≤ S.st.length
      omega
end
abbrev s_Office_cancel : Stmt := inClass (top 40) 2
abbrev N_Office_cancel : List Str := ["self", "index", "orders"]
abbrev P_Office_cancel : List Str := ["self", "index"]
theorem sc_Office_cancel : FnScope N_Office_cancel P_Office_cancel (defScope s_Office_cancel) := ⟨rfl, rfl, rfl, by decide +kernel, rfl, by decide +kernel, by decide +kernel⟩
/-! ### cancel -/
def spCancel (O C : Addr) : Sp := fun vs H Q _ => ∃ (o : Addr) (k : Nat) (S : OffS), vs = [.ref o, .int k] ∧ OffAt O C H o S ∧ S.st.length ≤ 900 ∧ k < S.cur.length ∧ S.cur.length ≤ 20 ∧
  ∀ H' v od, But o H H' → S.cur[k]? = some od → OrdAt H' v od → OffAt O C H' o { S with st := S.st.take S.e ++ [(("cancel" : Str), wo S.cur k)], e := S.e + 1 } → Q v H'
section
variable {P : Program} {w : World} {K : PySem.W.Frag} {mg : Str → Option Value} {base : Heap}
theorem ok_cancel {f O C pP fP fT : Addr} {fd fdP fdT : FuncData} (F : Fun K "cancel" "Office.cancel" s_Office_cancel f fd) (T : OffT K O) (pO : PropOf K O "present_orders" pP fP) (GP : FnOk P w K mg base CX0 1 fP fdP P_Office_present_orders (spPres O C)) (bP : Binds K fdP P_Office_present_orders [])
    (mT : Meth K O "take_step" fT) (GT : FnOk P w K mg base CX0 1 fT fdT P_Office_take_step (spTake O C)) (bT : Binds K fdT P_Office_take_step [])
    (DI : Df P w K mg base "check_index" 3 P_check_index spChkIx) (DO : Df P w K mg base "without_order" 1 P_without_order spWo) : FnOk P w K mg base CX0 4 f fd P_Office_cancel (spCancel O C) := by
  obtain ⟨fI, fdI, gI, kI, bI, GI⟩ := DI
  obtain ⟨fO, fdO, gO, kO, bO, GO⟩ := DO
  refine F.ok sc_Office_cancel (fun vs H Q E h => ?_) (fun cdv A outer s H vs Q E hr h => ?_)
  · obtain ⟨o, k, S, rfl, _⟩ := h
    rfl
  · obtain ⟨o, k, S, rfl, A, hl, hk, h20, q⟩ := h
    have hr1 : Room 1 _ := hr.mono (by decide)
    have hr2 : Room 2 _ := hr.mono (by decide)
    refine ⟨_, pss_cons (ps_set (i := 2) sc_Office_cancel.nd rfl (.inl rfl) (pe_prop (pv 0) T.cl pO GP hr2 bP .nil pass0 rfl))
      (pss_cons (ps_expr (pe_call GI hr (by rfl) gI kI bI .nil pass0 (pa_cons (pv 2) (pa_cons (pv 1) pa_nil))))
      (pss_cons (ps_expr (pe_meth (pv 0) T.cl mT GT hr1 bT .nil pass0 (pa_cons pe_str (pa_cons (pe_call GO hr1 (by rfl) gO kO bO .nil pass0 (pa_cons (pv 2) (pa_cons (pv 1) pa_nil))) pa_nil))))
      (pss_one (ps_ret (pe_ix ix_tup (pv 2) (pv 1) (fun _ _ => rfl)))))), ?_⟩
    obtain ⟨dx, fs, u, vs, ho, R, _⟩ := id A
    refine ⟨_, rfl, o, dx, fs, rfl, ho, o, S, rfl, A, fun t hO => ?_⟩
    obtain ⟨ts, ht, hP⟩ := id hO
    have tl := hP.length
    refine ⟨_, rfl, _, rfl, t, k, ts, rfl, ht, by omega, ?_⟩
    refine ⟨_, rfl, o, dx, fs, rfl, ho, R.no _ (by decide +kernel) (by decide +kernel) (by decide +kernel) (by decide +kernel), ?_⟩
    refine ⟨_, rfl, _, rfl, t, k, ts, rfl, ht, by omega, fun H1 c s1 hc => ?_⟩
    have hO1 := hO.keep (tk_of s1)
    refine ⟨o, c, _, wo S.cur k, S, rfl, A.same s1, hl, ⟨_, hc, Paired.app (Paired.take (OrdsAt.keep (tk_of s1) hP) k) (pair_drop (OrdsAt.keep (tk_of s1) hP) (k + 1))⟩, fun H2 b2 A2 => ?_⟩
    have ei := List.getElem?_eq_getElem hk
    obtain ⟨v, hv, hvo⟩ := Paired.get? (i := k) hP ei
    have kk := (tk_of s1)
    have k2 : TupKeep H1 H2 := tk_ins b2 (s1 _ _ ho)
    refine ⟨_, rfl, _, rfl, t, ts, k, v, rfl, rfl, SqT.of (k2 _ _ (kk _ _ ht)), atI_nat (j := k) hv, ?_⟩
    exact q H2 v _ (fun b z n e => b2 b z n (s1 _ _ e)) ei ((hvo.keep kk).keep k2) A2
end
abbrev s_Office_raise_order : Stmt := inClass (top 40) 4
abbrev N_Office_raise_order : List Str := ["self", "index", "orders"]
abbrev P_Office_raise_order : List Str := ["self", "index"]
theorem sc_Office_raise_order : FnScope N_Office_raise_order P_Office_raise_order (defScope s_Office_raise_order) := ⟨rfl, rfl, rfl, by decide +kernel, rfl, by decide +kernel, by decide +kernel⟩
/-! ### raise_order -/
def spRaise (O C : Addr) : Sp := fun vs H Q _ => ∃ (o : Addr) (k : Nat) (S : OffS), vs = [.ref o, .int k] ∧ OffAt O C H o S ∧ S.st.length ≤ 900 ∧ k < S.cur.length ∧ S.cur.length ≤ 20 ∧
  ∀ H' od, But o H H' → S.cur[k]? = some od → OffAt O C H' o { S with st := S.st.take S.e ++ [(("raise" : Str), od :: wo S.cur k)], e := S.e + 1 } → Q .non H'
section
variable {P : Program} {w : World} {K : PySem.W.Frag} {mg : Str → Option Value} {base : Heap}
theorem ok_raise {f O C pP fP fT : Addr} {fd fdP fdT : FuncData} (F : Fun K "raise_order" "Office.raise_order" s_Office_raise_order f fd) (T : OffT K O) (pO : PropOf K O "present_orders" pP fP) (GP : FnOk P w K mg base CX0 1 fP fdP P_Office_present_orders (spPres O C)) (bP : Binds K fdP P_Office_present_orders [])
    (mT : Meth K O "take_step" fT) (GT : FnOk P w K mg base CX0 1 fT fdT P_Office_take_step (spTake O C)) (bT : Binds K fdT P_Office_take_step [])
    (DI : Df P w K mg base "check_index" 3 P_check_index spChkIx) (DO : Df P w K mg base "without_order" 1 P_without_order spWo) : FnOk P w K mg base CX0 4 f fd P_Office_raise_order (spRaise O C) := by
  obtain ⟨fI, fdI, gI, kI, bI, GI⟩ := DI
  obtain ⟨fO, fdO, gO, kO, bO, GO⟩ := DO
  refine F.ok sc_Office_raise_order (fun vs H Q E h => ?_) (fun cdv A outer s H vs Q E hr h => ?_)
  · obtain ⟨o, k, S, rfl, _⟩ := h
    rfl
  · obtain ⟨o, k, S, rfl, A, hl, hk, h20, q⟩ := h
    have hr1 : Room 1 _ := hr.mono (by decide)
    have hr2 : Room 2 _ := hr.mono (by decide)
    refine ⟨_, pss_cons (ps_set (i := 2) sc_Office_raise_order.nd rfl (.inl rfl) (pe_prop (pv 0) T.cl pO GP hr2 bP .nil pass0 rfl))
      (pss_cons (ps_expr (pe_call GI hr (by rfl) gI kI bI .nil pass0 (pa_cons (pv 2) (pa_cons (pv 1) pa_nil))))
      (pss_one (ps_expr (pe_meth (pv 0) T.cl mT GT hr1 bT .nil pass0 (pa_cons pe_str (pa_cons (pe_op op_catA (pe_tup (pa_cons (pe_ix ix_tup (pv 2) (pv 1) (fun _ _ => rfl)) pa_nil)) (pe_call GO hr1 (by rfl) gO kO bO .nil pass0 (pa_cons (pv 2) (pa_cons (pv 1) pa_nil)))) pa_nil)))))), ?_⟩
    obtain ⟨dx, fs, u, vs, ho, R, _⟩ := id A
    refine ⟨_, rfl, o, dx, fs, rfl, ho, o, S, rfl, A, fun t hO => ?_⟩
    obtain ⟨ts, ht, hP⟩ := id hO
    have tl := hP.length
    have ei := List.getElem?_eq_getElem hk
    obtain ⟨v, hv, hvo⟩ := Paired.get? (i := k) hP ei
    refine ⟨_, rfl, _, rfl, t, k, ts, rfl, ht, by omega, ?_⟩
    refine ⟨_, rfl, o, dx, fs, rfl, ho, R.no _ (by decide +kernel) (by decide +kernel) (by decide +kernel) (by decide +kernel), ?_⟩
    refine ⟨_, rfl, _, rfl, t, ts, k, v, rfl, rfl, SqT.of ht, atI_nat (j := k) hv, (by show 1 ≤ sizeLine; decide), fun c1 n1 => ?_⟩
    have s1 := same_upd (o := HO.tup [v]) n1
    have hc1 : (upd H c1 (.tup [v])) c1 = some (.tup [v]) := upd_same
    generalize (upd H c1 (.tup [v])) = H1 at s1 hc1
    refine ⟨_, rfl, _, rfl, t, k, ts, rfl, s1 _ _ ht, by omega, fun H2 c2 s2 hc2 => ?_⟩
    refine catA_case (s2 _ _ hc1) hc2 (by rw [List.length_append, List.length_take, List.length_drop]; exact Nat.le_of_lt (small1000 (by show 1 + _ ≤ 1000; omega))) fun c H3 s3 hc => ?_
    have sA := s1.trans (s2.trans s3)
    refine ⟨o, c, _, _ :: wo S.cur k, S, rfl, A.same sA, hl, ⟨v :: (ts.take k ++ ts.drop (k + 1)), hc, .cons (hvo.keep (tk_of sA)) (Paired.app (Paired.take (OrdsAt.keep (tk_of sA) hP) k) (pair_drop (OrdsAt.keep (tk_of sA) hP) (k + 1)))⟩, fun H4 b4 A4 => ?_⟩
    exact q H4 _ (fun b z n e => b4 b z n (sA _ _ e)) ei A4
end
abbrev s_Office_redo : Stmt := inClass (top 40) 6
abbrev N_Office_redo : List Str := ["self"]
abbrev P_Office_redo : List Str := ["self"]
theorem sc_Office_redo : FnScope N_Office_redo P_Office_redo (defScope s_Office_redo) := ⟨rfl, rfl, rfl, by decide +kernel, rfl, by decide +kernel, by decide +kernel⟩
/-! ### redo -/
def spRedo (O C : Addr) : Sp := fun vs H Q _ => ∃ (o : Addr) (S : OffS), vs = [.ref o] ∧ OffAt O C H o S ∧ (S.e = S.st.length → Q (.bl false) H) ∧
  (S.e < S.st.length → ∀ H', But o H H' → OffAt O C H' o { S with e := S.e + 1 } → Q (.bl true) H')
section
variable {P : Program} {w : World} {K : PySem.W.Frag} {mg : Str → Option Value} {base : Heap}
theorem ok_redo {f O C : Addr} {fd : FuncData} (F : Fun K "redo" "Office.redo" s_Office_redo f fd) (B : Blt mg) (T : OffT K O) : FnOk P w K mg base CX0 1 f fd P_Office_redo (spRedo O C) := by
  refine F.ok sc_Office_redo (fun vs H Q E h => ?_) (fun cdv A outer s H vs Q E hr h => ?_)
  · obtain ⟨o, S, rfl, _⟩ := h
    rfl
  · obtain ⟨o, S, rfl, ⟨dx, fs, u, vs, ho, R, hu, hP, he, N, no⟩, q0, q1⟩ := h
    refine ⟨_, pss_cons (ps_if (pt_cmpR op_eq (pe_fld (pv 0) rfl) (pe_callB call_len_seq (by rfl) B.len PySem.boot_len (pa_cons (pe_fld (pv 0) rfl) pa_nil)) (nomark _)) (pss_one (ps_ret pe_bl)) pss_nil)
      (pss_cons (ps_fldaug (pv 0) pe_int iop_add)
      (pss_one (ps_ret pe_bl))), ?_⟩
    have hl := hP.length
    refine ⟨_, rfl, o, O, dx, fs, _, rfl, ho, T.cl, T.nE, R.ef, _, rfl, o, O, dx, fs, _, rfl, ho, T.cl, T.nS, R.st, u, vs, rfl, .inr (SqT.of hu), rfl, _, rfl, ite2 (fun c => ?_) (fun c => ?_)⟩
    · refine q0 ?_
      have := V.int.inj (of_decide_eq_true c)
      omega
    · have e1 : S.e < S.st.length := by
        refine Nat.lt_of_le_of_ne he fun z => c (decide_eq_true (by rw [z, hl]))
      refine ⟨_, rfl, o, O, dx, fs, _, rfl, ho, T.cl, T.nE, R.ef, _, _, rfl, rfl, dx, fs, ho, by have := R.len; omega, ?_⟩
      have R2 := R.setE (e' := S.e + 1)
      have k : TupKeep H (upd H o (.ins O dx (putF "effective" (.int ((S.e : Int) + 1)) fs))) := fun b xs e => by
        rw [upd_ne (ne_of e ho (by intro z; cases z))]
        exact e
      refine q1 e1 _ But.upd ?_
      refine ⟨dx, (putF "effective" (.int ((S.e : Int) + 1)) fs), u, vs, upd_same, R2, k _ _ hu, Paired.mapP hP fun _ _ z => z.keep k, ?_, N.but But.upd k no, no⟩
      show S.e + 1 ≤ S.st.length
      omega
end
abbrev s_Office_add : Stmt := inClass (top 40) 1
abbrev N_Office_add : List Str := ["self", "order", "orders"]
abbrev P_Office_add : List Str := ["self", "order"]
theorem sc_Office_add : FnScope N_Office_add P_Office_add (defScope s_Office_add) := ⟨rfl, rfl, rfl, by decide +kernel, rfl, by decide +kernel, by decide +kernel⟩
/-! ### add, of an order of the net -/
def spAdd (O C : Addr) : Sp := fun vs H Q _ => ∃ (o : Addr) (v : V) (od : Od) (S : OffS), vs = [.ref o, v] ∧ OffAt O C H o S ∧ S.st.length ≤ 900 ∧ OrdAt H v od ∧ OdOk S.p S.h od ∧ S.cur.length < 20 ∧
  ∀ H', But o H H' → OffAt O C H' o { S with st := S.st.take S.e ++ [(("add" : Str), S.cur ++ [od])], e := S.e + 1 } → Q (.int S.cur.length) H'
section
variable {P : Program} {w : World} {K : PySem.W.Frag} {mg : Str → Option Value} {base : Heap}
theorem ok_add {f O C pP fP fT : Addr} {fd fdP fdT : FuncData} (F : Fun K "add" "Office.add" s_Office_add f fd) (B : Blt mg) (T : OffT K O) (TN : NetT K C) (pO : PropOf K O "present_orders" pP fP) (GP : FnOk P w K mg base CX0 1 fP fdP P_Office_present_orders (spPres O C)) (bP : Binds K fdP P_Office_present_orders [])
    (mT : Meth K O "take_step" fT) (GT : FnOk P w K mg base CX0 1 fT fdT P_Office_take_step (spTake O C)) (bT : Binds K fdT P_Office_take_step [])
    (DI : Df P w K mg base "is_order" 3 P_is_order (spIsOrder K)) (hM : ∃ t, mg "MOST_ORDERS" = some (.int 20 t)) : FnOk P w K mg base CX0 4 f fd P_Office_add (spAdd O C) := by
  obtain ⟨fI, fdI, gI, kI, bI, GI⟩ := DI
  obtain ⟨tM, hM⟩ := hM
  refine F.ok sc_Office_add (fun vs H Q E h => ?_) (fun cdv A outer s H vs Q E hr h => ?_)
  · obtain ⟨o, v, od, S, rfl, _⟩ := h
    rfl
  · obtain ⟨o, v, od, S, rfl, A, hl, hv, hod, h20, q⟩ := h
    have hr1 : Room 1 _ := hr.mono (by decide)
    have hr2 : Room 2 _ := hr.mono (by decide)
    refine ⟨_, pss_cons (ps_if (pt_not (pt_val (pe_call GI hr (by rfl) gI kI bI .nil pass0 (pa_cons (pe_fld (pe_fld (pv 0) rfl) rfl) (pa_cons (pe_fld (pe_fld (pv 0) rfl) rfl) (pa_cons (pv 1) pa_nil)))))) (pss_one ps_never) pss_nil)
      (pss_cons (ps_set (i := 2) sc_Office_add.nd rfl (.inl rfl) (pe_prop (pv 0) T.cl pO GP hr2 bP .nil pass0 rfl))
      (pss_cons (ps_if (pt_cmpR op_eq (pe_callB call_len_seq (by rfl) B.len PySem.boot_len (pa_cons (pv 2) pa_nil)) (pe_glob (v := .int 20) rfl hM ⟨_, rfl⟩) (nomark _)) (pss_one ps_never) pss_nil)
      (pss_cons (ps_expr (pe_meth (pv 0) T.cl mT GT hr1 bT .nil pass0 (pa_cons pe_str (pa_cons (pe_op op_catA (pv 2) (pe_tup (pa_cons (pv 1) pa_nil))) pa_nil))))
      (pss_one (ps_ret (pe_callB call_len_seq (by rfl) B.len PySem.boot_len (pa_cons (pv 2) pa_nil))))))), ?_⟩
    obtain ⟨dx, fs, u, vs, ho, R, hu, hPv, he, N, no⟩ := id A
    obtain ⟨dxn, fl, as, _, hx, _⟩ := id N
    refine ⟨_, rfl, o, O, dx, fs, _, rfl, ho, T.cl, T.nN, R.net, S.x, C, dxn, _, _, rfl, hx, TN.cl, TN.nP, nf_pe, _, rfl, o, O, dx, fs, _, rfl, ho, T.cl, T.nN, R.net, S.x, C, dxn, _, _, rfl, hx, TN.cl, TN.nH, nf_ho, _, rfl, v, _, _, true, rfl, OrdAt.like hod hv, _, rfl, iteF ?_⟩
    refine ⟨_, rfl, o, dx, fs, rfl, ho, o, S, rfl, A, fun t hO => ?_⟩
    obtain ⟨ts, ht, hP⟩ := id hO
    have tl := hP.length
    refine ⟨_, rfl, t, ts, rfl, .inr (SqT.of ht), rfl, _, rfl, ?_⟩
    have e20 : decide (V.int ((ts.length : Nat) : Int) = V.int 20) = false := decide_eq_false fun z => by
      have := V.int.inj z
      omega
    rw [e20]
    refine iteF ⟨_, rfl, o, dx, fs, rfl, ho, R.no _ (by decide +kernel) (by decide +kernel) (by decide +kernel) (by decide +kernel), ?_⟩
    refine ⟨_, rfl, _, rfl, (by show 1 ≤ sizeLine; decide), fun u1 nu1 => ?_⟩
    have s1 := same_upd (o := HO.tup [v]) nu1
    refine catA_case (s1 _ _ ht) upd_same (Nat.le_of_lt (small1000 (by show ts.length + 1 ≤ _; omega))) fun c H2 s2 hc => ?_
    have s12 := s1.trans s2
    refine ⟨o, c, _, S.cur ++ [od], S, rfl, A.same s12, hl, ⟨_, hc, Paired.app (OrdsAt.keep (tk_of s12) hP) (.cons (hv.keep (tk_of s12)) .nil)⟩, fun H3 b3 A3 => ?_⟩
    have k3 : TupKeep H2 H3 := tk_ins b3 (s12 _ _ ho)
    refine ⟨_, rfl, t, ts, rfl, .inr (SqT.of (k3 _ _ (s12 _ _ ht))), ?_⟩
    rw [tl]
    exact q H3 (fun b z n e => b3 b z n (s12 _ _ e)) A3
end
abbrev s_Office_prolong : Stmt := inClass (top 40) 3
abbrev N_Office_prolong : List Str := ["self", "index", "days", "orders", "source", "target", "first", "former", "delay", "order"]
abbrev P_Office_prolong : List Str := ["self", "index", "days"]
theorem sc_Office_prolong : FnScope N_Office_prolong P_Office_prolong (defScope s_Office_prolong) := ⟨rfl, rfl, rfl, by decide +kernel, rfl, by decide +kernel, by decide +kernel⟩
abbrev s_Office_operations : Stmt := inClass (top 40) 8
abbrev N_Office_operations : List Str := ["self", "step"]
abbrev P_Office_operations : List Str := ["self"]
theorem sc_Office_operations : FnScope N_Office_operations P_Office_operations (defScope s_Office_operations) := ⟨rfl, rfl, rfl, by decide +kernel, rfl, by decide +kernel, by decide +kernel⟩
/-! ### prolong, by days that an order may have; the words of what is in effect -/
def proO (od : Od) (n : Nat) : Od := { od with n := n }
def setOd (os : List Od) (k : Nat) (od : Od) : List Od := os.take k ++ [od] ++ os.drop (k + 1)
def spProlong (O C : Addr) : Sp := fun vs H Q _ => ∃ (o : Addr) (k n : Nat) (od : Od) (S : OffS), vs = [.ref o, .int k, .int n] ∧ OffAt O C H o S ∧ S.st.length ≤ 900 ∧ S.cur[k]? = some od ∧ S.cur.length ≤ 20 ∧ OdOk S.p S.h (proO od n) ∧
  ∀ H', But o H H' → OffAt O C H' o { S with st := S.st.take S.e ++ [(("prolong" : Str), setOd S.cur k (proO od n))], e := S.e + 1 } → Q (.int od.n) H'
def spOps (O C : Addr) : Sp := fun vs H Q _ => ∃ (o : Addr) (S : OffS), vs = [.ref o] ∧ OffAt O C H o S ∧ S.st.length ≤ 900 ∧ ∀ H' r, Same H H' → H r = none → H' r = some (.lst ((S.st.take S.e).map fun s => V.str s.1)) → Q (.ref r) H'
theorem Paired.dropP {α β : Type} {F : α → β → Prop} : ∀ {xs : List α} {l : List β} (n : Nat), Paired F xs l → Paired F (xs.drop n) (l.drop n)
  | _, _, 0, q => q
  | _, _, _ + 1, .nil => .nil
  | _, _, n + 1, .cons _ t => Paired.dropP n t
section
variable {P : Program} {w : World} {K : PySem.W.Frag} {mg : Str → Option Value} {base : Heap}
theorem ok_prolong {f O C pP fP fT : Addr} {fd fdP fdT : FuncData} (F : Fun K "prolong" "Office.prolong" s_Office_prolong f fd) (B : Blt mg) (T : OffT K O) (TN : NetT K C) (pO : PropOf K O "present_orders" pP fP) (GP : FnOk P w K mg base CX0 1 fP fdP P_Office_present_orders (spPres O C)) (bP : Binds K fdP P_Office_present_orders [])
    (mT : Meth K O "take_step" fT) (GT : FnOk P w K mg base CX0 1 fT fdT P_Office_take_step (spTake O C)) (bT : Binds K fdT P_Office_take_step [])
    (DX : Df P w K mg base "check_index" 3 P_check_index spChkIx) (DI : Df P w K mg base "is_order" 3 P_is_order (spIsOrder K)) (DW : Df P w K mg base "with_order" 1 P_with_order spWith) : FnOk P w K mg base CX0 4 f fd P_Office_prolong (spProlong O C) := by
  obtain ⟨fX, fdX, gX, kX, bX, GX⟩ := DX
  obtain ⟨fI, fdI, gI, kI, bI, GI⟩ := DI
  obtain ⟨fW, fdW, gW, kW, bW, GW⟩ := DW
  refine F.ok sc_Office_prolong (fun vs H Q E h => ?_) (fun cdv A outer s H vs Q E hr h => ?_)
  · obtain ⟨o, k, n, od, S, rfl, _⟩ := h
    rfl
  · obtain ⟨o, k, n, od, S, rfl, A, hl, hk, h20, hod, q⟩ := h
    have hr1 : Room 1 _ := hr.mono (by decide)
    have hr2 : Room 2 _ := hr.mono (by decide)
    refine ⟨_, pss_cons (ps_set (i := 3) sc_Office_prolong.nd rfl (.inl rfl) (pe_prop (pv 0) T.cl pO GP hr2 bP .nil pass0 rfl))
      (pss_cons (ps_expr (pe_call GX hr (by rfl) gX kX bX .nil pass0 (pa_cons (pv 3) (pa_cons (pv 1) pa_nil))))
      (pss_cons (ps_asg (pe_ix ix_tup (pv 3) (pv 1) (fun _ _ => rfl)) (pg_tup (by rfl) (pgs_cons (pg_name (i := 4) sc_Office_prolong.nd rfl (.inl rfl)) (pgs_cons (pg_name (i := 5) sc_Office_prolong.nd rfl (.inl rfl)) (pgs_cons (pg_name (i := 6) sc_Office_prolong.nd rfl (.inl rfl)) (pgs_cons (pg_name (i := 7) sc_Office_prolong.nd rfl (.inl rfl)) (pgs_cons (pg_name (i := 8) sc_Office_prolong.nd rfl (.inl rfl)) pgs_nil)))))))
      (pss_cons (ps_set (i := 9) sc_Office_prolong.nd rfl (.inl rfl) (pe_tup (pa_cons (pv 4) (pa_cons (pv 5) (pa_cons (pv 6) (pa_cons (pv 2) (pa_cons (pv 8) pa_nil)))))))
      (pss_cons (ps_if (pt_not (pt_val (pe_call GI hr (by rfl) gI kI bI .nil pass0 (pa_cons (pe_fld (pe_fld (pv 0) rfl) rfl) (pa_cons (pe_fld (pe_fld (pv 0) rfl) rfl) (pa_cons (pv 9) pa_nil)))))) (pss_one ps_never) pss_nil)
      (pss_cons (ps_expr (pe_meth (pv 0) T.cl mT GT hr1 bT .nil pass0 (pa_cons pe_str (pa_cons (pe_call GW hr1 (by rfl) gW kW bW .nil pass0 (pa_cons (pv 3) (pa_cons (pv 1) (pa_cons (pv 9) pa_nil)))) pa_nil))))
      (pss_one (ps_ret (pv 7)))))))), ?_⟩
    obtain ⟨dx, fs, u, vs, ho, R, hu, hPv, he, N, no⟩ := id A
    obtain ⟨dxn, fl, as, _, hx, _⟩ := id N
    refine ⟨_, rfl, o, dx, fs, rfl, ho, o, S, rfl, A, fun t hO => ?_⟩
    obtain ⟨ts, ht, hP⟩ := id hO
    have tl := hP.length
    have lt : k < S.cur.length := (List.getElem?_eq_some_iff.mp hk).1
    refine ⟨_, rfl, _, rfl, t, k, ts, rfl, ht, by omega, ?_⟩
    obtain ⟨v, hv, u0, rfl, hu0⟩ := Paired.get? (i := k) hP hk
    refine ⟨_, rfl, _, rfl, t, ts, k, _, rfl, rfl, SqT.of ht, atI_nat (j := k) hv, ?_⟩
    refine ⟨u0, _, rfl, SqT.of hu0, rfl, _, _, rfl, _, _, rfl, _, _, rfl, _, _, rfl, _, _, rfl, rfl, ?_⟩
    refine ⟨_, rfl, _, rfl, _, rfl, _, rfl, _, rfl, (by show 5 ≤ sizeLine; decide), fun u1 nu1 => ?_⟩
    have s1 := same_upd (o := HO.tup [.int od.s, .int od.t, .int od.f, .int n, .int od.e]) nu1
    have hv1 : OrdAt (upd H u1 (.tup [.int od.s, .int od.t, .int od.f, .int n, .int od.e])) (.ref u1) (proO od n) := ⟨u1, rfl, upd_same⟩
    generalize (upd H u1 (.tup [.int od.s, .int od.t, .int od.f, .int n, .int od.e])) = H1 at s1 hv1
    refine ⟨_, rfl, o, O, dx, fs, _, rfl, s1 _ _ ho, T.cl, T.nN, R.net, S.x, C, dxn, _, _, rfl, s1 _ _ hx, TN.cl, TN.nP, nf_pe, _, rfl, o, O, dx, fs, _, rfl, s1 _ _ ho, T.cl, T.nN, R.net, S.x, C, dxn, _, _, rfl, s1 _ _ hx, TN.cl, TN.nH, nf_ho, _, rfl, _, _, _, true, rfl, OrdAt.like hod hv1, _, rfl, iteF ?_⟩
    refine ⟨_, rfl, o, dx, fs, rfl, s1 _ _ ho, R.no _ (by decide +kernel) (by decide +kernel) (by decide +kernel) (by decide +kernel), ?_⟩
    refine ⟨_, rfl, _, rfl, _, rfl, t, k, ts, _, rfl, s1 _ _ ht, by omega, fun H2 c s2 hc => ?_⟩
    have s12 := s1.trans s2
    refine ⟨o, c, _, setOd S.cur k (proO od n), S, rfl, A.same s12, hl, ⟨_, hc, Paired.app (Paired.app (Paired.take (OrdsAt.keep (tk_of s12) hP) k) (.cons (hv1.keep (tk_of s2)) .nil)) (Paired.dropP (k + 1) (OrdsAt.keep (tk_of s12) hP))⟩, fun H3 b3 A3 => ?_⟩
    exact ⟨_, rfl, q H3 (fun b z n e => b3 b z n (s12 _ _ e)) A3⟩
theorem ok_ops {f O C : Addr} {fd : FuncData} (F : Fun K "operations" "Office.operations" s_Office_operations f fd) (B : Blt mg) (T : OffT K O) : FnOk P w K mg base CX0 1 f fd P_Office_operations (spOps O C) := by
  refine F.ok sc_Office_operations (fun vs H Q E h => ?_) (fun cdv A outer s H vs Q E hr h => ?_)
  · obtain ⟨o, S, rfl, _⟩ := h
    rfl
  · obtain ⟨o, S, rfl, A, hl, q⟩ := h
    refine ⟨_, pss_one (ps_ret (pe_lc (own := [("step", 1)]) (g := gName 1) (tt := tYes) (te := tOp (rIxT K) (tVar 1) (tC (.int 0))) (by rfl) sc_Office_operations.nd (pi_tup (pe_slice sl_tupA (pe_fld (pv 0) rfl) po_none (po_some (pe_fld (pv 0) rfl)))) (blkOk_by (N := N_Office_operations) (sc := defScope s_Office_operations) (by decide +kernel))
      (fun _ _ _ _ _ => pg_name (i := 1) sc_Office_operations.nd rfl (.inl rfl)) (fun _ _ _ _ _ => pts_nil) (fun _ _ _ _ _ => pe_ix ix_tup (pv 1) pe_int (fun _ _ => rfl)))), ?_⟩
    obtain ⟨dx, fs, u, vs, ho, R, hu, hPv, he, N, no⟩ := id A
    refine ⟨_, rfl, o, O, dx, fs, _, rfl, ho, T.cl, T.nS, R.st, _, rfl, o, O, dx, fs, _, rfl, ho, T.cl, T.nE, R.ef, (S.e : Nat), rfl, ?_⟩
    refine slA_case (lo := none) (hi := some ((S.e : Nat) : Int)) hu fun b H1 s1 hb => ?_
    rw [cut_to] at hb
    have hP1 : Paired (StepV H1) (vs.take S.e) (S.st.take S.e) := Paired.take (Paired.mapP hPv fun _ _ z => z.keep (tk_of s1)) S.e
    refine ⟨b, rfl, ⟨_, SqT.of hb⟩, fun D nD => ?_⟩
    have pl := hP1.length
    refine lc_tup (K := K) (a := b) (xs := vs.take S.e) (fun k H' => H' = upd H1 D (.lst (((S.st.take S.e).take k).map fun s => V.str s.1))) rfl (fun k H' _ e => by rw [e]; exact SqT.of ((upd_ne (ne_of_none hb nD)).trans hb)) ?_ ?_
    · rintro k v H' hk rfl
      have lt : k < (S.st.take S.e).length := by rw [← pl]; exact (List.getElem?_eq_some_iff.mp hk).1
      have ek := List.getElem?_eq_getElem lt
      obtain ⟨v', hv', a, t, rfl, ha, _⟩ := Paired.get? (i := k) hP1 ek
      obtain rfl : _ = v := Option.some.inj (hv'.symm.trans hk)
      refine ⟨rfl, _, rfl, a, _, 0, _, rfl, rfl, SqT.of ((upd_ne (ne_of_none ha nD)).trans ha), atI_nat (j := 0) rfl, _, upd_same, ?_, ?_⟩
      · rw [List.length_map, List.length_take]
        have := List.length_take_le' S.e S.st
        exact small1000 (by omega)
      · rw [upd_upd, List.take_add_one, ek, List.map_append]
        rfl
    rintro H' rfl
    rw [pl, List.take_length]
    exact q _ D (s1.trans (same_upd nD)) (s1.free nD) upd_same
end
/-! ### one operation that an office can execute -/
inductive Opn where
  | add (od : Od)
  | cancel (k : Nat)
  | prolong (k n : Nat)
  | rais (k : Nat)
  | undo
  | redo
def OpnAt (H : Hp) (a : Addr) : Opn → Prop
  | .add od => ∃ v, H a = some (.tup [.str "add", v]) ∧ OrdAt H v od
  | .cancel k => H a = some (.tup [.str "cancel", .int k])
  | .prolong k n => H a = some (.tup [.str "prolong", .int k, .int n])
  | .rais k => H a = some (.tup [.str "raise", .int k])
  | .undo => H a = some (.tup [.str "undo"])
  | .redo => H a = some (.tup [.str "redo"])
def OpnOk (S : OffS) : Opn → Prop
  | .add od => OdOk S.p S.h od ∧ S.cur.length < 20
  | .cancel k => k < S.cur.length ∧ S.cur.length ≤ 20
  | .prolong k n => ∃ od, S.cur[k]? = some od ∧ S.cur.length ≤ 20 ∧ OdOk S.p S.h (proO od n)
  | .rais k => k < S.cur.length ∧ S.cur.length ≤ 20
  | .undo => True
  | .redo => True
def OffS.step (S : OffS) (w : Str) (os : List Od) : OffS := { S with st := S.st.take S.e ++ [(w, os)], e := S.e + 1 }
def nextO (S : OffS) : Opn → OffS
  | .add od => S.step "add" (S.cur ++ [od])
  | .cancel k => S.step "cancel" (wo S.cur k)
  | .prolong k n => S.step "prolong" (setOd S.cur k (proO ((S.cur[k]?).getD ⟨0, 0, 0, 0, 0⟩) n))
  | .rais k => S.step "raise" (((S.cur[k]?).getD ⟨0, 0, 0, 0, 0⟩) :: wo S.cur k)
  | .undo => { S with e := S.e - 1 }
  | .redo => { S with e := min (S.e + 1) S.st.length }
def ResO (H : Hp) (v : V) (S : OffS) : Opn → Prop
  | .add _ => v = .int S.cur.length
  | .cancel k => ∃ od, S.cur[k]? = some od ∧ OrdAt H v od
  | .prolong k _ => ∃ od, S.cur[k]? = some od ∧ v = .int od.n
  | .rais _ => v = .non
  | .undo => v = .bl (decide (S.e ≠ 0))
  | .redo => v = .bl (decide (S.e < S.st.length))
def spExec (O C : Addr) : Sp := fun vs H Q _ => ∃ (o a : Addr) (op : Opn) (S : OffS), vs = [.ref o, .ref a] ∧ OffAt O C H o S ∧ S.st.length ≤ 900 ∧ OpnAt H a op ∧ OpnOk S op ∧
  ∀ H' v, But o H H' → OffAt O C H' o (nextO S op) → ResO H' v S op → Q v H'
theorem str_eqT {x : Str} {A B : Prop} (h : A) : if decide (V.str x = V.str x) = true then A else B := by
  rw [decide_eq_true rfl]
  exact iteT h
theorem str_eqF {x y : Str} {A B : Prop} (n : ¬ x = y) (h : B) : if decide (V.str x = V.str y) = true then A else B := by
  rw [decide_eq_false (fun e => n (V.str.inj e))]
  exact iteF h
abbrev s_Office_execute : Stmt := inClass (top 40) 14
abbrev N_Office_execute : List Str := ["self", "operation", "word"]
abbrev P_Office_execute : List Str := ["self", "operation"]
theorem sc_Office_execute : FnScope N_Office_execute P_Office_execute (defScope s_Office_execute) := ⟨rfl, rfl, rfl, by decide +kernel, rfl, by decide +kernel, by decide +kernel⟩
section
variable {P : Program} {w : World} {K : PySem.W.Frag} {mg : Str → Option Value} {base : Heap}
theorem ok_exec {f O C f1 f2 f3 f4 f5 f6 : Addr} {fd d1 d2 d3 d4 d5 d6 : FuncData} (F : Fun K "execute" "Office.execute" s_Office_execute f fd) (T : OffT K O)
    (m1 : Meth K O "add" f1) (G1 : FnOk P w K mg base CX0 4 f1 d1 P_Office_add (spAdd O C)) (b1 : Binds K d1 P_Office_add []) (m2 : Meth K O "cancel" f2) (G2 : FnOk P w K mg base CX0 4 f2 d2 P_Office_cancel (spCancel O C)) (b2 : Binds K d2 P_Office_cancel [])
    (m3 : Meth K O "prolong" f3) (G3 : FnOk P w K mg base CX0 4 f3 d3 P_Office_prolong (spProlong O C)) (b3 : Binds K d3 P_Office_prolong []) (m4 : Meth K O "raise_order" f4) (G4 : FnOk P w K mg base CX0 4 f4 d4 P_Office_raise_order (spRaise O C)) (b4 : Binds K d4 P_Office_raise_order [])
    (m5 : Meth K O "undo" f5) (G5 : FnOk P w K mg base CX0 1 f5 d5 P_Office_undo (spUndo O C)) (b5 : Binds K d5 P_Office_undo []) (m6 : Meth K O "redo" f6) (G6 : FnOk P w K mg base CX0 1 f6 d6 P_Office_redo (spRedo O C)) (b6 : Binds K d6 P_Office_redo []) : FnOk P w K mg base CX0 5 f fd P_Office_execute (spExec O C) := by
  refine F.ok sc_Office_execute (fun vs H Q E h => ?_) (fun cdv A outer s H vs Q E hr h => ?_)
  · obtain ⟨o, a, op, S, rfl, _⟩ := h
    rfl
  · obtain ⟨o, a, op, S, rfl, W0, hl, ha, hk, q⟩ := h
    have hr1 : Room 1 _ := hr.mono (by decide)
    refine ⟨_, pss_cons (ps_set (i := 2) sc_Office_execute.nd rfl (.inl rfl) (pe_ix ix_tup (pv 1) pe_int (fun _ _ => rfl)))
      (pss_cons (ps_if (pt_cmpR op_eq (pv 2) pe_str (nomark _)) (pss_one (ps_ret (pe_meth (pv 0) T.cl m1 G1 hr b1 .nil pass0 (pa_cons (pe_ix ix_tup (pv 1) pe_int (fun _ _ => rfl)) pa_nil)))) pss_nil)
      (pss_cons (ps_if (pt_cmpR op_eq (pv 2) pe_str (nomark _)) (pss_one (ps_ret (pe_meth (pv 0) T.cl m2 G2 hr b2 .nil pass0 (pa_cons (pe_ix ix_tup (pv 1) pe_int (fun _ _ => rfl)) pa_nil)))) pss_nil)
      (pss_cons (ps_if (pt_cmpR op_eq (pv 2) pe_str (nomark _)) (pss_one (ps_ret (pe_meth (pv 0) T.cl m3 G3 hr b3 .nil pass0 (pa_cons (pe_ix ix_tup (pv 1) pe_int (fun _ _ => rfl)) (pa_cons (pe_ix ix_tup (pv 1) pe_int (fun _ _ => rfl)) pa_nil))))) pss_nil)
      (pss_cons (ps_if (pt_cmpR op_eq (pv 2) pe_str (nomark _)) (pss_one (ps_ret (pe_meth (pv 0) T.cl m4 G4 hr b4 .nil pass0 (pa_cons (pe_ix ix_tup (pv 1) pe_int (fun _ _ => rfl)) pa_nil)))) pss_nil)
      (pss_cons (ps_if (pt_cmpR op_eq (pv 2) pe_str (nomark _)) (pss_one (ps_ret (pe_meth0 (pv 0) T.cl m5 G5 hr1 b5 .nil pass0))) pss_nil)
      (pss_one (ps_ret (pe_meth0 (pv 0) T.cl m6 G6 hr1 b6 .nil pass0)))))))), ?_⟩
    obtain ⟨dx, fs, u, vs, ho, R, _⟩ := id W0
    have n1 : fs.lookup ("add" : Str) = none := R.no _ (by decide +kernel) (by decide +kernel) (by decide +kernel) (by decide +kernel)
    have n2 : fs.lookup ("cancel" : Str) = none := R.no _ (by decide +kernel) (by decide +kernel) (by decide +kernel) (by decide +kernel)
    have n3 : fs.lookup ("prolong" : Str) = none := R.no _ (by decide +kernel) (by decide +kernel) (by decide +kernel) (by decide +kernel)
    have n4 : fs.lookup ("raise_order" : Str) = none := R.no _ (by decide +kernel) (by decide +kernel) (by decide +kernel) (by decide +kernel)
    have n5 : fs.lookup ("undo" : Str) = none := R.no _ (by decide +kernel) (by decide +kernel) (by decide +kernel) (by decide +kernel)
    have n6 : fs.lookup ("redo" : Str) = none := R.no _ (by decide +kernel) (by decide +kernel) (by decide +kernel) (by decide +kernel)
    cases op with
    | add od =>
      obtain ⟨v, hv, hvo⟩ := ha
      obtain ⟨h1, h2⟩ := hk
      exact ⟨_, rfl, a, _, 0, _, rfl, rfl, SqT.of hv, atI_nat (j := 0) rfl, _, rfl, rfl, _, rfl, str_eqT ⟨_, rfl, o, dx, fs, rfl, ho, n1, _, rfl, a, _, 1, _, rfl, rfl, SqT.of hv, atI_nat (j := 1) rfl, o, v, od, S, rfl, W0, hl, hvo, h1, h2, fun H' b A => q H' _ b A rfl⟩⟩
    | cancel k =>
      have hv : H a = some (.tup [.str "cancel", .int k]) := ha
      obtain ⟨h1, h2⟩ := hk
      exact ⟨_, rfl, a, _, 0, _, rfl, rfl, SqT.of hv, atI_nat (j := 0) rfl, _, rfl, rfl, _, rfl, str_eqF (by decide +kernel) ⟨_, rfl, rfl, _, rfl, str_eqT ⟨_, rfl, o, dx, fs, rfl, ho, n2, _, rfl, a, _, 1, _, rfl, rfl, SqT.of hv, atI_nat (j := 1) rfl, o, k, S, rfl, W0, hl, h1, h2, fun H' v od b e r A => q H' v b A ⟨od, e, r⟩⟩⟩⟩
    | prolong k n =>
      have hv : H a = some (.tup [.str "prolong", .int k, .int n]) := ha
      obtain ⟨od, h1, h2, h3⟩ := hk
      refine ⟨_, rfl, a, _, 0, _, rfl, rfl, SqT.of hv, atI_nat (j := 0) rfl, _, rfl, rfl, _, rfl, str_eqF (by decide +kernel) ⟨_, rfl, rfl, _, rfl, str_eqF (by decide +kernel) ⟨_, rfl, rfl, _, rfl, str_eqT ⟨_, rfl, o, dx, fs, rfl, ho, n3, _, rfl, a, _, 1, _, rfl, rfl, SqT.of hv, atI_nat (j := 1) rfl, _, rfl, a, _, 2, _, rfl, rfl, SqT.of hv, atI_nat (j := 2) rfl, o, k, n, od, S, rfl, W0, hl, h1, h2, h3, fun H' b A => q H' _ b ?_ ⟨od, h1, rfl⟩⟩⟩⟩⟩
      show OffAt O C H' o (S.step "prolong" (setOd S.cur k (proO ((S.cur[k]?).getD ⟨0, 0, 0, 0, 0⟩) n)))
      rw [h1]
      exact A
    | rais k =>
      have hv : H a = some (.tup [.str "raise", .int k]) := ha
      obtain ⟨h1, h2⟩ := hk
      refine ⟨_, rfl, a, _, 0, _, rfl, rfl, SqT.of hv, atI_nat (j := 0) rfl, _, rfl, rfl, _, rfl, str_eqF (by decide +kernel) ⟨_, rfl, rfl, _, rfl, str_eqF (by decide +kernel) ⟨_, rfl, rfl, _, rfl, str_eqF (by decide +kernel) ⟨_, rfl, rfl, _, rfl, str_eqT ⟨_, rfl, o, dx, fs, rfl, ho, n4, _, rfl, a, _, 1, _, rfl, rfl, SqT.of hv, atI_nat (j := 1) rfl, o, k, S, rfl, W0, hl, h1, h2, fun H' od b e A => q H' _ b ?_ rfl⟩⟩⟩⟩⟩
      show OffAt O C H' o (S.step "raise" (((S.cur[k]?).getD ⟨0, 0, 0, 0, 0⟩) :: wo S.cur k))
      rw [e]
      exact A
    | undo =>
      have hv : H a = some (.tup [.str "undo"]) := ha
      refine ⟨_, rfl, a, _, 0, _, rfl, rfl, SqT.of hv, atI_nat (j := 0) rfl, _, rfl, rfl, _, rfl, str_eqF (by decide +kernel) ⟨_, rfl, rfl, _, rfl, str_eqF (by decide +kernel) ⟨_, rfl, rfl, _, rfl, str_eqF (by decide +kernel) ⟨_, rfl, rfl, _, rfl, str_eqF (by decide +kernel) ⟨_, rfl, rfl, _, rfl, str_eqT ⟨_, rfl, o, dx, fs, rfl, ho, n5, o, S, rfl, W0, fun z => ?_, fun z H' b A => q H' _ b A ?_⟩⟩⟩⟩⟩⟩
      · refine q H _ .refl ?_ ?_
        · have e : nextO S .undo = S := by
            show { S with e := S.e - 1 } = S
            rw [show S.e - 1 = S.e by omega]
          rw [e]
          exact W0
        · show V.bl false = .bl (decide (S.e ≠ 0))
          rw [decide_eq_false (fun y => y z)]
      · show V.bl true = .bl (decide (S.e ≠ 0))
        rw [decide_eq_true z]
    | redo =>
      have hv : H a = some (.tup [.str "redo"]) := ha
      refine ⟨_, rfl, a, _, 0, _, rfl, rfl, SqT.of hv, atI_nat (j := 0) rfl, _, rfl, rfl, _, rfl, str_eqF (by decide +kernel) ⟨_, rfl, rfl, _, rfl, str_eqF (by decide +kernel) ⟨_, rfl, rfl, _, rfl, str_eqF (by decide +kernel) ⟨_, rfl, rfl, _, rfl, str_eqF (by decide +kernel) ⟨_, rfl, rfl, _, rfl, str_eqF (by decide +kernel) ⟨_, rfl, o, dx, fs, rfl, ho, n6, o, S, rfl, W0, fun z => ?_, fun z H' b A => q H' _ b ?_ ?_⟩⟩⟩⟩⟩⟩
      · refine q H _ .refl ?_ ?_
        · have e : nextO S .redo = S := by
            show { S with e := min (S.e + 1) S.st.length } = S
            rw [show min (S.e + 1) S.st.length = S.e by omega]
          rw [e]
          exact W0
        · show V.bl false = .bl (decide (S.e < S.st.length))
          rw [decide_eq_false (by omega)]
      · show OffAt O C H' o { S with e := min (S.e + 1) S.st.length }
        rw [show min (S.e + 1) S.st.length = S.e + 1 by omega]
        exact A
      · show V.bl true = .bl (decide (S.e < S.st.length))
        rw [decide_eq_true z]
end
/-! ### a def whose first row is super().__init__(e): its frame, the class's cell in the written part -/
section
open PySem.Spec PyProof.Rows
/-- the names of such a def: parameters local, one free name -/
structure SupSc (N ps : List Str) (sc : Scope) : Prop where
  kind : sc.kind = .function
  co : sc.isCoroutine = false
  gen : sc.isGenerator = false
  nd : N.Nodup
  pre : N = ps
  par : ∀ x ∈ ps, sc.names.lookup x = some .local
  nocell : ∀ y ∈ sc.names, y.2 ≠ .cell
  free : ∀ y, sc.names.lookup y = some .free → y = "__class__"
  noN : ∀ x ∈ N, x ≠ "__class__"
def supScB (N ps : List Str) (sc : Scope) : Bool :=
  decide (sc.kind = .function) && !sc.isCoroutine && !sc.isGenerator && decide N.Nodup && decide (N = ps) && (ps.all fun x => decide (sc.names.lookup x = some .local)) && (sc.names.all fun y => !decide (y.2 = .cell) && (!decide (y.2 = .free) || decide (y.1 = "__class__"))) && N.all fun x => !decide (x = "__class__")
theorem supSc_by {N ps : List Str} {sc : Scope} (h : supScB N ps sc = true) : SupSc N ps sc := by
  unfold supScB at h
  simp only [Bool.and_eq_true, Bool.or_eq_true, Bool.not_eq_true', decide_eq_true_eq, decide_eq_false_iff_not, List.all_eq_true] at h
  obtain ⟨⟨⟨⟨⟨⟨⟨h1, h2⟩, h3⟩, h4⟩, h5⟩, h6⟩, h7⟩, h8⟩ := h
  refine ⟨h1, h2, h3, h4, h5, h6, fun y hy => (h7 y hy).1, fun y e => ?_, h8⟩
  rcases (h7 (y, .free) (PySem.mem_of_lookup e)).2 with z | z
  · exact absurd rfl z
  · exact z
abbrev supEnv (qual : Str) (scope : Scope) (L f cda cc : Addr) : Env := PySem.W.ksEnv qual scope L f (.ref cda) cc
def supCx (P : Program) (w : World) (K : PySem.W.Frag) (mg : Str → Option Value) (base : Heap) (N : List Str) (qual : Str) (scope : Scope) (f cda cc : Addr) (A : Around) (outer : List Env) (s : Shared) (H : Hp) : Cx where
  prog := P
  w := w
  K := K
  mg := mg
  base := base
  A := A.deeper (supEnv qual scope s.heap.objs.size f cda cc)
  N := N
  s_0 := s
  H_0 := H
  env := supEnv qual scope s.heap.objs.size f cda cc
  outer := outer
  stack := supEnv qual scope s.heap.objs.size f cda cc :: outer
  ex := []
  fn := fun _ => false
  calm := true
  pn := []
  xe := fun _ _ => False
/-- what the written part has of the cell -/
def CellK (K : PySem.W.Frag) (cc D : Addr) : Prop := ∃ cl cld csl, K.lookup cc = some ⟨cl, cld, .cell (some (.ref D)), csl⟩
theorem lookup_nd {α β : Type} [BEq α] [LawfulBEq α] : ∀ {l : List (α × β)} {x : α} {u : β}, (l.map (·.1)).Nodup → (x, u) ∈ l → l.lookup x = some u
  | (y, v) :: l, x, u, nd, h => by
    rw [List.map_cons, List.nodup_cons] at nd
    rcases List.mem_cons.mp h with e | hm
    · cases e
      rw [List.lookup_cons, beq_self_eq_true]
    · have ne : x ≠ y := fun e => nd.1 (by rw [← e]; exact List.mem_map_of_mem (f := (·.1)) hm)
      rw [List.lookup_cons, beq_eq_false_iff_ne.mpr ne]
      exact lookup_nd nd.2 hm
theorem zip_lookup {ps : List Str} {us : List Value} {i : Nat} {x : Str} {u : Value} (hl : us.length = ps.length) (nd : ps.Nodup) (h1 : ps[i]? = some x) (h2 : us[i]? = some u) : (ps.zip us).reverse.lookup x = some u := by
  refine lookup_nd ?_ (List.mem_reverse.mpr (List.mem_of_getElem? (i := i) ?_))
  · rw [List.map_reverse, List.map_fst_zip (Nat.le_of_eq hl.symm)]
    show List.Pairwise _ _
    rw [List.pairwise_reverse]
    exact List.Pairwise.imp (fun h => Ne.symm h) nd
  · rw [List.getElem?_zip_eq_some]
    exact ⟨h1, h2⟩
theorem sup_start {P : Program} {w : World} {K : PySem.W.Frag} {mg : Str → Option Value} {base : Heap} {N ps : List Str} {qual : Str} {scope : Scope} {f cda cc D : Addr} {A : Around} {outer : List Env} {s : Shared} {H : Hp} {us : List Value} {vs : List V} {h₁ : Heap} {tk : Nat}
    (S : SupSc N ps scope) (hd : A.handled = none) (e0 : Env0 P w K mg base A outer s H) (hl : vs.length = ps.length) (r : Vals vs us) (hc : CellK K cc D) (hb : ∃ o, base.get? cc = some o)
    (hns : h₁.Ns s.heap.objs.size fun x => (ps.zip us).reverse.lookup x) (kp : ∀ b o, s.heap.get? b = some o → h₁.get? b = some o) :
    Inv (supCx P w K mg base N qual scope f cda cc A outer s H) [] (L2.start N vs) H { s with heap := h₁, toks := tk } := by
  obtain ⟨cl, cld, csl, lk⟩ := hc
  obtain ⟨oc, hoc⟩ := hb
  have K1 : K.In s.heap := e0.mod.kin.keeps fun b o e => (e0.bs b o e).1
  have none_ : ∀ {b : Addr}, b ∈ ([] : List Addr) → False := fun z => nomatch z
  have isc : h₁.IsCell cc (some (.ref D)) := ⟨_, kp _ _ (K1 _ _ lk), rfl⟩
  have one : ∀ {y : Str} {c : Addr}, ([("__class__", cc)] : List (Str × Addr)).lookup y = some c → y = "__class__" ∧ c = cc := fun {y c} e => by
    have := PySem.mem_of_lookup e
    cases List.mem_singleton.mp this
    exact ⟨rfl, rfl⟩
  refine ⟨⟨e0.mod, S.kind, rfl, rfl, Nat.le_refl _, fun y z c e1 e2 => (one e1).1.trans (one e2).1.symm, fun y hy => ?_, fun y c z _ => (nomatch (show false = true from z)), fun _ => hd, Around.frames_deeper e0.frames, .inr ⟨rfl, rfl⟩, fun b z => (none_ z).elim, e0.bs, e0.bsz, fun b _ _ z => none_ z, fun b z => (none_ z).elim, e0.funs, e0.frf⟩,
    rfl, e0.bare, Un.kept kp, ⟨_, hns, fun i y v e1 e2 e3 => ?_⟩, fun y c e => ?_, e0.hok.fresh (Nat.le_refl _), fun y c e => ?_, fun q hq => (nomatch (show q ∈ ([] : List (Addr × Obj)) ++ [] from hq)), e0.hok.kept kp, ?_⟩
  · have hy : scope.names.lookup y = some .cell ∨ scope.names.lookup y = some .free := hy
    rcases hy with hy | hy
    · exact absurd rfl (S.nocell _ (PySem.mem_of_lookup hy))
    · rw [S.free y hy]
      exact ⟨cc, rfl⟩
  · have e2 : (vs.map some ++ List.replicate (N.length - vs.length) none)[i]? = some (some v) := e2
    have hN : N.length - vs.length = 0 := by rw [S.pre, hl]; exact Nat.sub_self _
    rw [hN, List.replicate_zero, List.append_nil, List.getElem?_map] at e2
    obtain ⟨a, ha, ea⟩ := Option.map_eq_some_iff.mp e2
    cases ea
    obtain ⟨u, hu, rv⟩ := r.get ha
    have e1 : N[i]? = some y := e1
    have hp : ps[i]? = some y := by rw [← S.pre]; exact e1
    exact ⟨u, rv, .inl ⟨S.par y (List.mem_of_getElem? hp), zip_lookup (by rw [← r.length, hl]) (by rw [← S.pre]; exact S.nd) hp hu⟩⟩
  · obtain ⟨rfl, rfl⟩ := one e
    exact ⟨_, isc⟩
  · obtain ⟨rfl, rfl⟩ := one e
    exact (e0.bs _ _ hoc).2
  · show (vs.map some ++ List.replicate (N.length - vs.length) none).length = N.length
    rw [List.length_append, List.length_map, List.length_replicate, S.pre, hl, Nat.sub_self, Nat.add_zero]
end
/-! ### the row super().__init__(e) of an own error -/
section
open PySem.Spec PyProof.Rows
variable {X : Cx} {pins : List (Addr × Obj)} {σ : L2.St} {H : Hp} {s : Shared}
/-- the wrapper that super() gives, called -/
theorem call_mw {us : List Value} {Q : Value → Shared → Prop} {E : Value → Shared → Prop} {a C u : Addr} (T : OexC X.K C) (I : Inv X pins σ H s) (hu : s.heap.get? u = some (PySem.W.kxs_mw "ValueError.__init__" a)) (e : H a = some (exo a C none)) (hl : us.length ≤ sizeLine) (h : ∀ s', Inv X pins σ H s' → Q .none s') :
    wpAny (model X.prog X.w) X.A (call (.ref u) us) Q E s := by
  obtain ⟨nm, q, N, bs, bm, sn, sub, ab, col, dd, k0, k1, k2, k3, k5, hC, hbm⟩ := T.cls
  obtain ⟨t1, ho⟩ := exo_at I.hok e
  have hC' := I.kIn _ _ hC
  have fin : ∀ h', (∀ b o, b ≠ a → s.heap.get? b = some o → h'.get? b = some o) → h'.get? a = some (PySem.W.excObj C s.heap.objs.size none .none) → h'.get? s.heap.objs.size = some (PySem.W.excTup us) → Q .none { s with heap := h' } := fun h' k hx _ => by
    have J := I.write (t' := s.toks) (x := a) (e := a) (o := exo a C none) (by rw [e]; exact True.intro) (.inl rfl) k ⟨_, hx⟩ (exo_ok hx)
    have eu : L2.upd H a (exo a C none) = H := by
      funext b
      by_cases hb : b = a
      · rw [hb, upd_same, e]
      · rw [upd_ne hb]
    rw [eu] at J
    exact h _ J
  obtain ⟨hh, g, d, tk, os⟩ := s
  refine wpAny_call (codeAny_of_tree ?_)
  show wpAny _ X.A.in1 (callAny (.ref u) ⟨us, []⟩) _ _ _
  simp only [callAny]
  refine wpAny_bind (wpAny_load hu ?_)
  simp only [PySem.W.kxs_mw, show (Value.type "method-wrapper" == Value.type "method" || Value.type "method-wrapper" == Value.type "builtin_function_or_method" || Value.type "method-wrapper" == Value.type "method-wrapper") = true by decide, if_true]
  refine PySem.W.KFB.if_so (by decide) ?_
  refine wpAny_bind (PySem.W.check_bound_init F.excBase_ValueError.toExcCallFacts hC' ho rfl ?_)
  refine wpAny_bind (wpAny_pure (wpAny_pure ?_))
  refine ⟨plainId_quiet F.excBase_ValueError.init.plain _, codeAny_builtin F.excBase_ValueError.initEntry ?_⟩
  exact PySem.W.exc_init_tree (cls := .ref C) (t0 := t1) (dv := none) (c2 := .none) (c3 := .none) (b4 := .bool false) ho hl fin
/-- what the written part says of the def whose row it is -/
structure SupI (P : Program) (K : PySem.W.Frag) (mg : Str → Option Value) (sc : Scope) (f cda cc D : Addr) (fd : FuncData) : Prop where
  fn : ∃ oc od osl, K.lookup f = some ⟨oc, od, .func fd, osl⟩
  self : ∃ ar, (fd.params.posonlyargs ++ fd.params.args).head? = some ar ∧ ar.arg = ("self" : Str)
  code : ∃ ccl cdd vs ccs file tf, K.lookup cda = some ⟨ccl, cdd, .fields vs, ccs⟩ ∧ vs[2]? = some (.str file tf) ∧ ((P.main.file : Str) == file) = true
  cell : CellK K cc D
  cls : ∃ cd, PySem.W.clsIn K D = some cd
  sup : mg "super" = none
  top : (P.main.scope.names.lookup ("super" : Str)).isSome = false
  any : PySem.W.nsIn K cStatics "thirdparty.any" = some none
  names : sc.names.lookup ("super" : Str) = some .globalImplicit ∧ sc.names.lookup ("__class__" : Str) = some .free ∧ sc.names.lookup ("self" : Str) = some .local ∧ sc.kind = .function
/-- what it says of the class of the error -/
structure SupC (K : PySem.W.Frag) (C D : Addr) : Prop where
  sub : PySem.W.mroIn K C (.ref D) = some true
  ini : PySem.W.ks_superIn K C D "__init__" = some (some (.builtin "ValueError.__init__"))
  ve : PySem.W.subIn K (.ref C) (.type "ValueError") = some true
theorem sup_row {i : Nat} {a C f cda cc D : Addr} {fd : FuncData} {e : Expr} {ta : TA} {body : List Stmt} {p0 p1 p2 p3 p4 : Pos} {pl : Sem Bool} {R : Hp → Prop} (SI : SupI X.prog X.K X.mg X.env.scope f cda cc D fd) (hf : X.env.func = some f) (hco : X.env.code = .ref cda) (hcl : X.env.cells.lookup ("__class__" : Str) = some cc) (hN : X.N[i]? = some "self")
    (ha : PA X [e] ta) (hi : interactive X.env = false)
    (hev : eval (.Call (.Attribute (.Call (.Name "super" p0) [] [] p1) "__init__" p2) [e] [] p3) X.env = (do
      let ov ← attributeBase (.Call (.Name "super" p0) [] [] p1) "__init__" X.env (eval (.Call (.Name "super" p0) [] [] p1) X.env)
      standAt p2.atName
      let (f, first) ← holding [ov] (getMethod ov "__init__" pl)
      callWith p3 f first (backTo p3 (starEach [e] X.env)) []))
    (he : starEach [e] X.env = (false, eval e X.env) :: starEach [] X.env) (hpl : (backTo p3 (starEach [] X.env)).any (·.1) = false)
    (hs : swapsWith (.Call (.Attribute (.Call (.Name "super" p0) [] [] p1) "__init__" p2) [e] [] p3) none p4.line X.env = pure false)
    (I : Inv X pins σ H s) (hσ : σ[i]? = some (some (.ref a))) (hea : H a = some (exo a C none)) (T : OexC X.K C) (SC : SupC X.K C D)
    (h : ta σ H fun ws H1 => ws.length ≤ 1000 ∧ H1 a = some (exo a C none) ∧ R H1) :
    _root_.PySem.wpAt (model X.prog X.w) X.A (.func body X.env) (exec (.Expr (.Call (.Attribute (.Call (.Name "super" p0) [] [] p1) "__init__" p2) [e] [] p3) p4) X.env) (fun fl s' => fl = .next ∧ ∃ H1, Inv X pins σ H1 s' ∧ R H1) X.xe s := by
  obtain ⟨oc, od, osl, lk⟩ := SI.fn
  obtain ⟨ar, har, earg⟩ := SI.self
  obtain ⟨ccl, cdd, vs, ccs, file, tf, lkc, hvs, hfile⟩ := SI.code
  obtain ⟨cl, cld, csl, lkl⟩ := SI.cell
  obtain ⟨cdD, hD⟩ := SI.cls
  obtain ⟨n1, n2, n3, n4⟩ := SI.names
  have K1 : X.K.In s.heap := I.kIn
  obtain ⟨oD, hD1, hD2⟩ : ∃ oD, s.heap.get? D = some oD ∧ oD.data = .cls cdD := by
    unfold PySem.W.clsIn at hD
    split at hD
    · rename_i c d cd' sl ho
      cases hD
      exact ⟨_, K1 _ _ ho, rfl⟩
    · cases hD
  obtain ⟨t1, hx⟩ := exo_at I.hok hea
  obtain ⟨m, hn, hl⟩ := I.loc
  obtain ⟨u, r, l⟩ := hl i "self" (.ref a) hN hσ (.inl n3)
  obtain rfl : u = Value.ref a := r
  have hm : m "self" = some (.ref a) := by
    rcases l with ⟨_, z⟩ | ⟨k, _⟩
    · exact z
    · have k : X.env.scope.names.lookup ("self" : Str) = some .cell ∨ X.env.scope.names.lookup ("self" : Str) = some .free := k
      rw [n3] at k
      rcases k with k | k <;> cases k
  obtain ⟨mb, b1, b2⟩ := I.mod.blt
  cases hc : PySem.W.clsIn X.K C with
  | none =>
    have z := SC.ini
    unfold PySem.W.ks_superIn at z
    rw [hc] at z
    cases z
  | some cd =>
    have hini := SC.ini
    unfold PySem.W.ks_superIn at hini
    rw [hc] at hini
    obtain ⟨hh, g, d, tk, os⟩ := s
    refine PySem.ks_wpAt_Expr_any ?_ hi hs
    refine PySem.ks_wpAt_MethodCall (pl := pl) ?_ hev
    refine PySem.ks_wpAt_super_base n1 n2 (by decide) hf (K1 _ _ lk) rfl har hco (K1 _ _ lkc) rfl hvs hfile SI.top ?_
    refine PySem.W.ks_loadName_global I.ok.kind n1 (PySem.Calls.loadGlobal_builtin (by rw [I.ok.glob]; exact I.mod.glob.keeps I.bk) SI.sup (by rw [I.ok.blt]; exact b1.keeps I.bk) ((b2 "super" (by decide)).trans (show bootBuiltins "super" = some (.type "super") from by decide +kernel)) ⟨rfl, ?_⟩)
    refine wpAny_loadName_free I.ok.kind n2 hcl ⟨_, K1 _ _ lkl, rfl⟩ ?_
    rw [earg]
    refine wpAny_loadName_local I.ok.kind n3 hn hm ?_
    refine PySem.ks_wpAny_isType_cls hD1 hD2 ⟨rfl, ?_⟩
    refine PySem.ks_wpAny_call_super hD1 hD2 hx rfl (fun c z => by cases z) (PySem.W.looks_mroIn K1 SC.sub) (fun h' e' k => ?_)
    have I1 : Inv X pins σ H ⟨h', g, d, tk, os⟩ := I.kept k
    have K2 : X.K.In h' := I1.kIn
    have hx1 := k _ _ hx
    have ins : PySem.W.InstAt h' a _ C none := ⟨hx1, rfl, rfl, trivial⟩
    refine PySem.W.kxs_getMethod PySem.W.kxs_ValueError (l₀ := cd.mro) e' (PySem.W.looks_opaque K2 SI.any) (fun A Q E s k q => wpAny_bind ((PySem.W.looks_clsIn K2 hc) A _ E s k (wpAny_pure q))) rfl K2 hini (ins.type.andThen (PySem.W.looks_subIn K2 SC.ve)) (PySem.W.ks_ne K2 ins hc) (by decide) ?_
    have nu : H h'.objs.size = none := I1.hok.fresh (Nat.le_refl _)
    have fo : FpOk X pins H h'.objs.size := I1.fpOk (Nat.le_refl _) nu
    have kp : ∀ b o, h'.get? b = some o → (h'.push (PySem.W.kxs_mw "ValueError.__init__" a)).get? b = some o := fun b o z => Heap.get?_push_of_some _ z
    have hmw : (h'.push (PySem.W.kxs_mw "ValueError.__init__" a)).get? h'.objs.size = some (PySem.W.kxs_mw "ValueError.__init__" a) := Heap.get?_push_size _ rfl
    have I2 : Inv X pins σ H ⟨h'.push (PySem.W.kxs_mw "ValueError.__init__" a), g, d, tk + 1, os⟩ := I1.kept kp
    have I3 : Inv X (pins ++ [(h'.objs.size, PySem.W.kxs_mw "ValueError.__init__" a)]) σ H ⟨h'.push (PySem.W.kxs_mw "ValueError.__init__" a), g, d, tk + 1, os⟩ := I2.pins_of fun p hp => (List.mem_append.mp hp).elim (fun z => I2.pin p (List.mem_append_right _ z)) fun z => by
      rw [List.mem_singleton.mp z]
      exact ⟨hmw, fo.1, fo.2.1, fo.2.2.1, fun v y => by cases y⟩
    show wpAny _ _ (callWith p3 (.ref h'.objs.size) [] (backTo p3 (starEach [e] X.env)) []) _ _ _
    refine PySem.W.kxs_callWith (i := "ValueError.__init__") (x := a) (by rw [he]; show (false || (backTo p3 (starEach [] X.env)).any (·.1)) = false; rw [hpl]; rfl) ?_
    have run := ha.run p3 _ _ σ H _ I3 h
    rw [he] at run ⊢
    refine PySem.Calls.evalArgs_plain (thn run fun us s3 hq => ?_)
    obtain ⟨ws, H1, I4, r1, hz, ea, q⟩ := hq
    have hu := (I4.pin (h'.objs.size, PySem.W.kxs_mw "ValueError.__init__" a) (by simp)).1
    refine ⟨hu, ?_⟩
    have hlen : us.length ≤ sizeLine := by
      rw [← Paired.length r1, sizeLine_eq]
      omega
    exact call_mw T I4.unpinned hu ea hlen fun s' J => ⟨rfl, H1, J, q⟩
end
/-! ### the promise of such a def -/
section
open PySem.Spec PyProof.Rows
variable {P : Program} {w : World} {K : PySem.W.Frag} {mg : Str → Option Value} {base : Heap}
theorem fn_sup {k : Nat} {f cda cc D : Addr} {qual : Str} {params : Arguments} {scope : Scope} {kV doc pm ct oc : Value} {an od : Option Addr} {osl : Array (Option Value)} {N ps : List Str} {sp : Sp} {e : Expr} {rest : List Stmt} {p0 p1 p2 p3 p4 : Pos} {pl : Sem Bool}
    (lk : K.lookup f = some ⟨oc, od, .func (PySem.W.ksFn "__init__" qual params (.Expr (.Call (.Attribute (.Call (.Name "super" p0) [] [] p1) "__init__" p2) [e] [] p3) p4 :: rest) scope .none kV doc pm an (.ref cda) ct cc), osl⟩) (hcd : PySem.W.codeIn K (.ref cda) qual = true) (S : SupSc N ps scope) (h0 : N[0]? = some ("self" : Str))
    (SI : SupI P K mg scope f cda cc D (PySem.W.ksFn "__init__" qual params (.Expr (.Call (.Attribute (.Call (.Name "super" p0) [] [] p1) "__init__" p2) [e] [] p3) p4 :: rest) scope .none kV doc pm an (.ref cda) ct cc))
    (len : ∀ vs H Q E, sp vs H Q E → vs.length = ps.length)
    (hev : ∀ L : Addr, eval (.Call (.Attribute (.Call (.Name "super" p0) [] [] p1) "__init__" p2) [e] [] p3) (supEnv qual scope L f cda cc) = (do
      let ov ← attributeBase (.Call (.Name "super" p0) [] [] p1) "__init__" (supEnv qual scope L f cda cc) (eval (.Call (.Name "super" p0) [] [] p1) (supEnv qual scope L f cda cc))
      standAt p2.atName
      let (fv, first) ← holding [ov] (getMethod ov "__init__" pl)
      callWith p3 fv first (backTo p3 (starEach [e] (supEnv qual scope L f cda cc))) []))
    (he : ∀ L : Addr, starEach [e] (supEnv qual scope L f cda cc) = (false, eval e (supEnv qual scope L f cda cc)) :: starEach [] (supEnv qual scope L f cda cc)) (hpl : ∀ L : Addr, (backTo p3 (starEach [] (supEnv qual scope L f cda cc))).any (·.1) = false)
    (hi : ∀ L : Addr, interactive (supEnv qual scope L f cda cc) = false) (hs : ∀ L : Addr, swapsWith (.Call (.Attribute (.Call (.Name "super" p0) [] [] p1) "__init__" p2) [e] [] p3) none p4.line (supEnv qual scope L f cda cc) = pure false)
    (hbody : ∀ (A : Around) (outer : List Env) (s : Shared) (H : Hp) (vs : List V) (Q : VK) (E : XK), Room k (A.deeper (supEnv qual scope s.heap.objs.size f cda cc)) → sp vs H Q E →
      ∃ (a C : Addr) (ta : TA) (t : TS), vs[0]? = some (.ref a) ∧ H a = some (exo a C none) ∧ OexC K C ∧ SupC K C D ∧ PA (supCx P w K mg base N qual scope f cda cc A outer s H) [e] ta ∧ PSs (supCx P w K mg base N qual scope f cda cc A outer s H) rest t ∧
        ta (L2.start N vs) H fun ws H1 => ws.length ≤ 1000 ∧ H1 a = some (exo a C none) ∧ t { nx := fun _ H' => Q .non H', rt := Q } (L2.start N vs) H1) :
    FnOk P w K mg base CX0 (k + 1) f (PySem.W.ksFn "__init__" qual params (.Expr (.Call (.Attribute (.Call (.Name "super" p0) [] [] p1) "__init__" p2) [e] [] p3) p4 :: rest) scope .none kV doc pm an (.ref cda) ct cc) ps sp := by
  refine ⟨len, fun A outer s H args us vs Q E hr e0 hb r hsp => ?_⟩
  have hl := len _ _ _ _ hsp
  have KX : K.In s.heap := e0.mod.kin.keeps fun b o e => (e0.bs b o e).1
  have lim : s.heap.NoLimit := e0.mod.nolimit.keeps fun b o e => (e0.bs b o e).1
  obtain ⟨cl, cld, csl, lkl⟩ := id SI.cell
  have hcc : ∃ o, base.get? cc = some o := ⟨_, e0.mod.kin _ _ lkl⟩
  refine PySem.ks_codeAny_call_defAt hr.depth (KX _ _ lk) rfl lim (PySem.W.codeRec_of KX hcd) rfl hb (fun y hy => S.nocell y hy) (fun y hy => S.par y.1 (List.of_mem_zip (a := y.1) (b := y.2) hy).1) (fun h₁ hns kp => ?_) S.co S.gen S.kind
  obtain ⟨a, C, ta, t, ea, hea, T, SC, hPA, hPS, q⟩ := hbody A outer s H vs Q E (hr.deeper _) hsp
  have I := sup_start (cda := cda) (f := f) (qual := qual) (tk := s.toks + (ps.zip us).length) S hr.hd e0 hl r SI.cell hcc hns kp
  have hσ : (L2.start N vs)[0]? = some (some (.ref a)) := by
    unfold L2.start
    have h1 : 0 < (vs.map some).length := by
      rw [List.length_map]
      exact (List.getElem?_eq_some_iff.mp ea).1
    rw [List.getElem?_append_left h1, List.getElem?_map, ea]
    rfl
  refine PySem.ks_wpAt_execs_cons (PySem.ks_wpAt_mono (sup_row (X := supCx P w K mg base N qual scope f cda cc A outer s H) (R := fun H1 => t { nx := fun _ H' => Q .non H', rt := Q } (L2.start N vs) H1) (i := 0) (e := e) (p0 := p0) (p1 := p1) (p2 := p2) (p3 := p3) (p4 := p4) (pl := pl) SI rfl rfl rfl h0 hPA (hi _) (hev _) (he _) (hpl _) (hs _) I hσ hea T SC q) (fun fl s' hq => ?_) fun _ _ z => z.elim)
  · obtain ⟨rfl, H1, J, ht⟩ := hq
    refine PySem.wpAt_of_wpAny (wpAny_mono (hPS.run [] s' (L2.start N vs) H1 _ J ht) (fun fl2 s2 hs2 => ?_) fun _ _ z => z.elim)
    have fin : ∀ {σ' : L2.St} {H' : Hp} {v : V} {u : Value}, Inv (supCx P w K mg base N qual scope f cda cc A outer s H) [] σ' H' s2 → L2.RelV v u → Q v H' → CE outer P w H s Q u s2 :=
      fun {σ' H' v u} J rv q => ⟨v, H', J.os, J.bare, J.base, J.hok, rv, q⟩
    cases fl2 with
    | ret u =>
      obtain ⟨v, σ', H', J, rv, q⟩ := hs2
      exact fin J rv q
    | next =>
      obtain ⟨σ', H', J, q⟩ := hs2
      exact fin (v := V.non) (u := Value.none) J rfl q
    | brk =>
      obtain ⟨_, _, _, q⟩ := hs2
      exact False.elim q
    | cont =>
      obtain ⟨_, _, _, q⟩ := hs2
      exact False.elim q
end
/-! ### the class of an own error with an own __init__, by what the written part says -/
section
open PySem.Spec PyProof.Rows
def oexB (K : PySem.W.Frag) (C : Addr) : Bool := match K.lookup C with
  | some ⟨.type "type", _, .cls cd, sl⟩ => (match cd.mro, sl.toList with
    | .ref C' :: bm, [_, _, _, _, some (.builtin n), _] => C' == C && n == "ValueError.__new__" && !cd.hasDel && cd.hasDict && PySem.HandSPX.refsVE bm
    | _, _ => false)
  | _ => false
variable {K : PySem.W.Frag} {C : Addr}
theorem oex_cls (q : oexB K C = true) : ∃ cd, PySem.W.clsIn K C = some cd := by
  unfold oexB at q
  unfold PySem.W.clsIn
  split at q
  · rename_i dd cd sl ho
    exact ⟨cd, by rw [ho]⟩
  · cases q
theorem oex_mk (q : oexB K C = true) (sa : PySem.W.findIn K (.ref C) "__setattr__" = some (some (.builtin "object.__setattr__"))) (exC : PySem.W.subIn K (.ref C) (.type "BaseException") = some true) (tyC : PySem.W.typeIn K (.ref C) = some (.type "type")) (kC : PySem.W.keepIn K (.ref C) = true) : OexC K C := by
  refine ⟨?_, sa, exC, tyC, kC⟩
  unfold oexB at q
  split at q
  · rename_i dd cd sl ho
    split at q
    · rename_i C' bm k0 k1 k2 k3 n k5 hm hs
      simp only [Bool.and_eq_true, beq_iff_eq, Bool.not_eq_true'] at q
      obtain ⟨⟨⟨⟨rfl, rfl⟩, hdel⟩, hdi⟩, ht⟩ := q
      obtain ⟨nm, bs, mro, ns, qn, hd, sn, sub, ab, col, del⟩ := cd
      dsimp only at hm hdel hdi
      subst hm hdel hdi
      have hsl : sl = #[k0, k1, k2, k3, some (.builtin "ValueError.__new__"), k5] := by
        obtain ⟨l⟩ := sl
        simp only at hs
        rw [hs]
      subst hsl
      exact ⟨nm, qn, ns, bs, bm, sn, sub, ab, col, dd, k0, k1, k2, k3, k5, ho, ht⟩
    · cases q
  · cases q
end
abbrev s_InvalidNet_init : Stmt := inClass (top 3) 0
abbrev N_InvalidNet_init : List Str := ["self", "part", "index"]
abbrev P_InvalidNet_init : List Str := ["self", "part", "index"]
theorem sc_InvalidNet_init : SupSc N_InvalidNet_init P_InvalidNet_init (defScope s_InvalidNet_init) := supSc_by (by decide +kernel)
/-! ### the error of a net: what its __init__ makes -/
section
open PySem.Spec PyProof.Rows
structure FunS (K : PySem.W.Frag) (qual : Str) (st : Stmt) (f cda cc : Addr) (fd : FuncData) : Prop where
  ex : ∃ oc od osl kV doc pm an ct, fd = PySem.W.ksFn "__init__" qual (defArgs st) (defBody st) (defScope st) .none kV doc pm an (.ref cda) ct cc ∧ K.lookup f = some ⟨oc, od, .func fd, osl⟩ ∧ PySem.W.codeIn K (.ref cda) qual = true
variable {P : Program} {w : World} {K : PySem.W.Frag} {mg : Str → Option Value} {base : Heap}
def spNetErr (K : PySem.W.Frag) (D : Addr) : Sp := fun vs H Q _ => ∃ (a C : Addr) (part : Str) (i : Nat), vs = [.ref a, .str part, .int i] ∧ H a = some (exo a C none) ∧ OexC K C ∧ SupC K C D ∧ part.length ≤ 100 ∧ i ≤ 30 ∧ PySem.W.findIn K (.ref C) "part" = some none ∧ PySem.W.findIn K (.ref C) "index" = some none ∧
  ∀ dx, H dx = none → dx ≠ a → Q .non (L2.upd (L2.upd (L2.upd H dx (exd dx [("part", .str part)])) a (exo a C (some dx))) dx (exd dx [("index", .int i), ("part", .str part)]))
theorem ok_neterr {f cda cc D : Addr} {fd : FuncData} (F : FunS K "InvalidNet.__init__" s_InvalidNet_init f cda cc fd) (SI : SupI P K mg (defScope s_InvalidNet_init) f cda cc D fd) : FnOk P w K mg base CX0 2 f fd P_InvalidNet_init (spNetErr K D) := by
  obtain ⟨oc, od, osl, kV, doc, pm, an, ct, rfl, lk, hcd⟩ := F.ex
  refine fn_sup (N := N_InvalidNet_init) (ps := P_InvalidNet_init) lk hcd sc_InvalidNet_init rfl SI (fun vs H Q E h => ?_) (fun L => by rfl) (fun L => by rfl) (fun L => by rfl) (fun L => by rfl) (fun L => by rfl) (fun A outer s H vs Q E hr h => ?_)
  · obtain ⟨a, C, part, i, rfl, _⟩ := h
    rfl
  · obtain ⟨a, C, part, i, rfl, ha, T, SC, pl, il, f1, f2, q⟩ := h
    refine ⟨a, C, _, _, rfl, ha, T, SC, pa_cons (pe_joined (.cons pe_str (.cons (pe_fmt (pv 1)) (.cons pe_str (.cons (pe_fmt (pv 2)) .nil))))) pa_nil, pss_cons (ps_ost (pv 0) (pv 1)) (pss_one (ps_ost (pv 0) (pv 2))), ?_⟩
    have hi := (nT_ok il).2.2.1
    have z0 : (Str.empty ++ ("invalid " : Str)).length = 8 := by decide +kernel
    have z1 : (" of a net, index " : Str).length = 17 := by decide +kernel
    refine ⟨_, rfl, by rw [z0, sizeLine_eq]; omega, ?_⟩
    refine ⟨_, rfl, .inl ⟨part, rfl, by rw [sizeLine_eq]; omega, part, rfl, by rw [len_app, z0, sizeLine_eq]; omega, ?_⟩⟩
    refine ⟨_, rfl, by rw [len_app, len_app, z0, z1, sizeLine_eq]; omega, ?_⟩
    refine ⟨_, rfl, .inr ⟨_, rfl, log_small il, nT i, rfl, by rw [len_app, len_app, len_app, z0, z1, sizeLine_eq]; omega, ?_⟩⟩
    refine ⟨by show 1 ≤ 1000; decide, ha, ?_⟩
    refine ⟨_, rfl, _, rfl, a, C, rfl, T, f1, .inl ⟨ha, fun dx nd ne => ?_⟩⟩
    refine ⟨_, rfl, _, rfl, a, C, rfl, T, f2, .inr ⟨dx, _, upd_same, (upd_ne ne).trans upd_same, by show 1 ≤ 900; decide, q dx nd ne⟩⟩
end
abbrev s_TextFault_init : Stmt := inClass (top 13) 0
abbrev N_TextFault_init : List Str := ["self", "line"]
abbrev P_TextFault_init : List Str := ["self", "line"]
theorem sc_TextFault_init : SupSc N_TextFault_init P_TextFault_init (defScope s_TextFault_init) := supSc_by (by decide +kernel)
abbrev s_InvalidCode_init : Stmt := inClass (top 14) 0
abbrev N_InvalidCode_init : List Str := ["self", "place"]
abbrev P_InvalidCode_init : List Str := ["self", "place"]
theorem sc_InvalidCode_init : SupSc N_InvalidCode_init P_InvalidCode_init (defScope s_InvalidCode_init) := supSc_by (by decide +kernel)
/-! ### the errors with one number: what their __init__ makes -/
section
open PySem.Spec PyProof.Rows
theorem num_len : ∀ n, n < 1000 → (nT n).length ≤ 4 := by
  have h : ((List.range 1000).all fun n => decide ((nT n).length ≤ 4)) = true := by decide +kernel
  intro n hn
  rw [List.all_eq_true] at h
  exact of_decide_eq_true (h n (List.mem_range.mpr hn))
theorem log_1000 {n : Nat} (h : n < 1000) : ((n : Int)).natAbs.log2 < 1920 := by
  have : ((n : Int)).natAbs = n := Int.natAbs_natCast n
  rw [this]
  by_cases c : n = 0
  · subst c; decide
  · have h1 : n.log2 < 10 := (Nat.log2_lt c).mpr (Nat.lt_of_lt_of_le h (by decide))
    omega
variable {P : Program} {w : World} {K : PySem.W.Frag} {mg : Str → Option Value} {base : Heap}
def spOneErr (K : PySem.W.Frag) (D : Addr) (fld : Str) : Sp := fun vs H Q _ => ∃ (a C : Addr) (i : Nat), vs = [.ref a, .int i] ∧ H a = some (exo a C none) ∧ OexC K C ∧ SupC K C D ∧ i < 1000 ∧ PySem.W.findIn K (.ref C) fld = some none ∧
  ∀ dx, H dx = none → dx ≠ a → Q .non (L2.upd (L2.upd H dx (exd dx [(fld, .int i)])) a (exo a C (some dx)))
theorem ok_linerr {f cda cc D : Addr} {fd : FuncData} (F : FunS K "TextFault.__init__" s_TextFault_init f cda cc fd) (SI : SupI P K mg (defScope s_TextFault_init) f cda cc D fd) : FnOk P w K mg base CX0 2 f fd P_TextFault_init (spOneErr K D "line") := by
  obtain ⟨oc, od, osl, kV, doc, pm, an, ct, rfl, lk, hcd⟩ := F.ex
  refine fn_sup (N := N_TextFault_init) (ps := P_TextFault_init) lk hcd sc_TextFault_init rfl SI (fun vs H Q E h => ?_) (fun L => by rfl) (fun L => by rfl) (fun L => by rfl) (fun L => by rfl) (fun L => by rfl) (fun A outer s H vs Q E hr h => ?_)
  · obtain ⟨a, C, i, rfl, _⟩ := h
    rfl
  · obtain ⟨a, C, i, rfl, ha, T, SC, il, f1, q⟩ := h
    refine ⟨a, C, _, _, rfl, ha, T, SC, pa_cons (pe_joined (.cons pe_str (.cons (pe_fmt (pv 1)) .nil))) pa_nil, pss_one (ps_ost (pv 0) (pv 1)), ?_⟩
    have hi := num_len i il
    have z0 : (Str.empty ++ ("invalid text at line " : Str)).length = 21 := by decide +kernel
    refine ⟨_, rfl, by rw [z0, sizeLine_eq]; omega, ?_⟩
    refine ⟨_, rfl, .inr ⟨_, rfl, log_1000 il, nT i, rfl, by rw [len_app, z0, sizeLine_eq]; omega, ?_⟩⟩
    exact ⟨by show 1 ≤ 1000; decide, ha, _, rfl, _, rfl, a, C, rfl, T, f1, .inl ⟨ha, fun dx nd ne => q dx nd ne⟩⟩
theorem ok_codeerr {f cda cc D : Addr} {fd : FuncData} (F : FunS K "InvalidCode.__init__" s_InvalidCode_init f cda cc fd) (SI : SupI P K mg (defScope s_InvalidCode_init) f cda cc D fd) : FnOk P w K mg base CX0 2 f fd P_InvalidCode_init (spOneErr K D "place") := by
  obtain ⟨oc, od, osl, kV, doc, pm, an, ct, rfl, lk, hcd⟩ := F.ex
  refine fn_sup (N := N_InvalidCode_init) (ps := P_InvalidCode_init) lk hcd sc_InvalidCode_init rfl SI (fun vs H Q E h => ?_) (fun L => by rfl) (fun L => by rfl) (fun L => by rfl) (fun L => by rfl) (fun L => by rfl) (fun A outer s H vs Q E hr h => ?_)
  · obtain ⟨a, C, i, rfl, _⟩ := h
    rfl
  · obtain ⟨a, C, i, rfl, ha, T, SC, il, f1, q⟩ := h
    refine ⟨a, C, _, _, rfl, ha, T, SC, pa_cons (pe_joined (.cons pe_str (.cons (pe_fmt (pv 1)) .nil))) pa_nil, pss_one (ps_ost (pv 0) (pv 1)), ?_⟩
    have hi := num_len i il
    have z0 : (Str.empty ++ ("invalid code at place " : Str)).length = 22 := by decide +kernel
    refine ⟨_, rfl, by rw [z0, sizeLine_eq]; omega, ?_⟩
    refine ⟨_, rfl, .inr ⟨_, rfl, log_1000 il, nT i, rfl, by rw [len_app, z0, sizeLine_eq]; omega, ?_⟩⟩
    exact ⟨by show 1 ≤ 1000; decide, ha, _, rfl, _, rfl, a, C, rfl, T, f1, .inl ⟨ha, fun dx nd ne => q dx nd ne⟩⟩
end
abbrev s_InvalidOperation_init : Stmt := inClass (top 17) 0
abbrev N_InvalidOperation_init : List Str := ["self", "place"]
abbrev P_InvalidOperation_init : List Str := ["self", "place"]
theorem sc_InvalidOperation_init : SupSc N_InvalidOperation_init P_InvalidOperation_init (defScope s_InvalidOperation_init) := supSc_by (by decide +kernel)
section
open PySem.Spec PyProof.Rows
variable {P : Program} {w : World} {K : PySem.W.Frag} {mg : Str → Option Value} {base : Heap}
theorem ok_operr {f cda cc D : Addr} {fd : FuncData} (F : FunS K "InvalidOperation.__init__" s_InvalidOperation_init f cda cc fd) (SI : SupI P K mg (defScope s_InvalidOperation_init) f cda cc D fd) : FnOk P w K mg base CX0 2 f fd P_InvalidOperation_init (spOneErr K D "place") := by
  obtain ⟨oc, od, osl, kV, doc, pm, an, ct, rfl, lk, hcd⟩ := F.ex
  refine fn_sup (N := N_InvalidOperation_init) (ps := P_InvalidOperation_init) lk hcd sc_InvalidOperation_init rfl SI (fun vs H Q E h => ?_) (fun L => by rfl) (fun L => by rfl) (fun L => by rfl) (fun L => by rfl) (fun L => by rfl) (fun A outer s H vs Q E hr h => ?_)
  · obtain ⟨a, C, i, rfl, _⟩ := h
    rfl
  · obtain ⟨a, C, i, rfl, ha, T, SC, il, f1, q⟩ := h
    refine ⟨a, C, _, _, rfl, ha, T, SC, pa_cons (pe_joined (.cons pe_str (.cons (pe_fmt (pv 1)) .nil))) pa_nil, pss_one (ps_ost (pv 0) (pv 1)), ?_⟩
    have hi := num_len i il
    have z0 : (Str.empty ++ ("invalid operation at place " : Str)).length = 27 := by decide +kernel
    refine ⟨_, rfl, by rw [z0, sizeLine_eq]; omega, ?_⟩
    refine ⟨_, rfl, .inr ⟨_, rfl, log_1000 il, nT i, rfl, by rw [len_app, z0, sizeLine_eq]; omega, ?_⟩⟩
    exact ⟨by show 1 ≤ 1000; decide, ha, _, rfl, _, rfl, a, C, rfl, T, f1, .inl ⟨ha, fun dx nd ne => q dx nd ne⟩⟩
end
/-! ### raising the errors of the package -/
/-- the class x at D: what its raising asks -/
structure ErrR (K : PySem.W.Frag) (mg : Str → Option Value) (x : Str) (D : Addr) : Prop where
  g : mg x = some (.ref D)
  x : PySem.W.excIn K D [.type "ValueError", .type "Exception", .type "BaseException", .type "object"] "ValueError.__new__" = true
  k : PySem.W.keepIn K (.ref D) = true
  b : PySem.W.subIn K (.ref D) (.type "BaseException") = some true
  t : PySem.W.typeIn K (.ref D) = some (.type "type")
theorem pmk_err {X : Cx} {x m : Str} {j : Nat} {p p2 pos : Pos} {D : Addr} (E : ErrR X.K X.mg x D) (hg : Gl X x) (hdb : (x == ("__debug__" : Str)) = false := by decide) : PMk X (.Call (.Name x p) [.Constant (.str m) j p2] [] pos) (fun _ H Q => Q (.ref D) none H) :=
  pmk_own PySem.F.excBase_ValueError E.x E.g E.k (raises_own E.b E.t) hg hdb
abbrev takesX {X : Cx} := @takes_of X
section
variable {P : Program} {w : World} {K : PySem.W.Frag} {mg : Str → Option Value} {base : Heap}
/-- a def with one parameter and a star parameter, that may raise -/
theorem fun_star1X {x qual p1 pv : Str} {st : Stmt} {f : Addr} {fd : FuncData} {N : List Str} {k : Nat} {sp : Sp} (F : Fun K x qual st f fd) (S : FnScope N ([p1] ++ [pv]) (defScope st))
    (h0 : ∀ (kV doc pm : Value) (an : Option Addr) (cdv ct a : Value), bindArgs (PySem.W.fnOf x qual (defArgs st) (defBody st) (defScope st) .none kV doc pm an cdv ct) ⟨[a], []⟩ = (newTuple [] >>= fun t => pure [(p1, a), (pv, t)]))
    (h1 : ∀ (kV doc pm : Value) (an : Option Addr) (cdv ct a r : Value) (rs : List Value), bindArgs (PySem.W.fnOf x qual (defArgs st) (defBody st) (defScope st) .none kV doc pm an cdv ct) ⟨a :: r :: rs, []⟩ = (newTuple (r :: rs) >>= fun t => pure [(p1, a), (pv, t)]))
    (hbody : ∀ (cdv : Value) (A : Around) (outer : List Env) (s : Shared) (H : Hp) (vs : List V) (Q : VK) (E : XK), Room k (A.deeper (PyProof.Rows.envOfC qual (defScope st) s.heap.objs.size f cdv)) → sp vs H Q E →
      ∃ t, PSs (cxOf (L2.CX P w) P w K mg base N qual (defScope st) f cdv A outer s H E) (defBody st) t ∧ t { nx := fun _ H' => Q .non H', rt := Q } (L2.start N vs) H) :
    FnR P w K mg base (L2.CX P w) (k + 1) f (fun vs H Q E => ∃ a rest, vs = a :: rest ∧ rest.length ≤ sizeLine ∧ ∀ p, H p = none → sp [a, .ref p] (upd H p (.tup rest)) Q E) := by
  obtain ⟨oc, od, kV, doc, pm, an, cdv, ct, osl, rfl, lk, hcd⟩ := F.ex
  have g := StX.fn_star (CX := L2.CX P w) (P := P) (w := w) (K := K) (mg := mg) (base := base) (k := k) (ps := [p1]) (pv := pv) (sp := sp) lk hcd S StX.cxUp
    (StX.bind_star1 (B := fun us => bindArgs (PySem.W.fnOf x qual (defArgs st) (defBody st) (defScope st) .none kV doc pm an cdv ct) ⟨us, []⟩) (h0 kV doc pm an cdv ct) (h1 kV doc pm an cdv ct))
    fun A outer s H vs Q E hr hsp => hbody cdv A outer s H vs Q E hr hsp
  exact g.imp fun vs H Q E ⟨a, rest, e, hz, h⟩ => ⟨[a], rest, e, rfl, hz, h⟩
end
/-! ### a promise without errors among those with; one of two promises -/
section
variable {P : Program} {w : World} {K : PySem.W.Frag} {mg : Str → Option Value} {base : Heap}
theorem FnOk.up {k : Nat} {f : Addr} {fd : FuncData} {ps : List Str} {sp : Sp} (F : FnOk P w K mg base CX0 k f fd ps sp) : FnOk P w K mg base (L2.CX P w) k f fd ps sp :=
  ⟨F.len, fun A outer s H args us vs Q E hr he hb hv hs => PySem.codeAny_mono (F.run A outer s H args us vs Q E hr he hb hv hs) fun r s' h => by
    cases r with
    | ok z => cases z <;> exact h
    | error e => exact False.elim h⟩
theorem FnOk.or {CX : CXT} {k : Nat} {f : Addr} {fd : FuncData} {ps : List Str} {sp sp' : Sp} (F : FnOk P w K mg base CX k f fd ps sp) (G : FnOk P w K mg base CX k f fd ps sp') : FnOk P w K mg base CX k f fd ps (fun vs H Q E => sp vs H Q E ∨ sp' vs H Q E) :=
  ⟨fun vs H Q E h => h.elim (F.len vs H Q E) (G.len vs H Q E), fun A outer s H args us vs Q E hr he hb hv hs => hs.elim (F.run A outer s H args us vs Q E hr he hb hv) (G.run A outer s H args us vs Q E hr he hb hv)⟩
end
/-! ### raise InvalidNet(part, index) -/
section
open PySem.Spec PyProof.Rows
structure NetErr (P : Program) (w : World) (K : PySem.W.Frag) (mg : Str → Option Value) (base : Heap) (C : Addr) : Prop where
  g : mg "InvalidNet" = some (.ref C)
  T : OexC K C
  SC : SupC K C C
  f1 : PySem.W.findIn K (.ref C) "part" = some none
  f2 : PySem.W.findIn K (.ref C) "index" = some none
  ini : ∃ (f : Addr) (fd : FuncData), PySem.W.findIn K (.ref C) "__init__" = some (some (.ref f)) ∧ PySem.W.typeIn K (.ref f) = some (.type "function") ∧ FnOk P w K mg base CX0 2 f fd P_InvalidNet_init (spNetErr K C) ∧ Binds K fd P_InvalidNet_init []
theorem same_ext {H H2 : Hp} {d : Addr} (nd : H d = none) (oth : ∀ b, b ≠ d → H2 b = H b) : Same H H2 := fun b o e => by rw [oth b (ne_of_none e nd)]; exact e
/-- the fields that such an error has -/
def netFs (part : Str) (i : Nat) : List (Str × V) := [("index", .int i), ("part", .str part)]
theorem pa_weak {X : Cx} {es : List Expr} {ta : TA} (h : PA X es ta) : PA X es (fun σ H k => ∃ k1 : List V → Hp → Prop, ta σ H k1 ∧ ∀ vs H1, k1 vs H1 → k vs H1) := ⟨fun pos pins s σ H Q I ⟨k1, h1, h2⟩ => thn (h.run pos pins s σ H k1 I h1) fun us s1 ⟨vs, H1, I1, r, q⟩ => ⟨vs, H1, I1, r, h2 _ _ q⟩⟩
theorem pmk_neterr {X : Cx} {C : Addr} {e : Expr} {es : List Expr} {ta : TA} {p pos : Pos} (NE : NetErr X.prog X.w X.K X.mg X.base C) (hr : Room 3 X.A) (hg : Gl X "InvalidNet") (ha : PA X (e :: es) ta)
    (he : starEach (e :: es) X.env = (false, eval e X.env) :: starEach es X.env := by rfl) (hpl : (backTo pos (starEach es X.env)).any (·.1) = false := by rfl) :
    PMk X (.Call (.Name "InvalidNet" p) (e :: es) [] pos) (fun σ H Q => ta σ H fun vs H1 => ∃ (part : Str) (i : Nat), vs = [.str part, .int i] ∧ part.length ≤ 100 ∧ i ≤ 30 ∧ ∀ d H2, H1 d = none → H2 d = some (.xd (netFs part i)) → (∀ b, b ≠ d → H2 b = H1 b) → Q (.ref C) (some d) H2) := by
  obtain ⟨f, fd, iC, tI, F1, bI⟩ := NE.ini
  intro pins s σ H Q I h
  refine pmk_oex (X := X) (e := e) (es := es) (p := p) (pos := pos) (ds := []) (dvs := []) NE.T iC tI F1 hr bI .nil (fun _ _ _ _ _ _ _ z => z.elim) hg NE.g (pa_weak ha) (by decide) he hpl pins s σ H Q I ⟨_, h, fun vs H1 h1 => ?_⟩
  obtain ⟨part, i, rfl, pl, il, q⟩ := h1
  refine ⟨by show 2 ≤ 1000; decide, fun a na => ⟨a, C, part, i, rfl, upd_same, NE.T, NE.SC, pl, il, NE.f1, NE.f2, fun dx nd ne => ⟨rfl, dx, netFs part i, (upd_ne ne.symm).trans upd_same, upd_same, ?_, ?_⟩⟩⟩
  · rw [upd_ne ne] at nd
    exact nd
  · rw [upd_ne ne] at nd
    refine q dx _ nd upd_same fun b hb => ?_
    rw [upd_ne hb]
    by_cases e : b = a
    · rw [e, del_same, na]
    · rw [del_ne e, upd_ne hb, upd_ne e, upd_ne hb, upd_ne e]
end
/-! ### raise of an error with one number -/
section
open PySem.Spec PyProof.Rows
structure OneErr (P : Program) (w : World) (K : PySem.W.Frag) (mg : Str → Option Value) (base : Heap) (cn fld : Str) (ps : List Str) (C : Addr) : Prop where
  g : mg cn = some (.ref C)
  T : OexC K C
  SC : SupC K C C
  f1 : PySem.W.findIn K (.ref C) fld = some none
  ini : ∃ (f : Addr) (fd : FuncData), PySem.W.findIn K (.ref C) "__init__" = some (some (.ref f)) ∧ PySem.W.typeIn K (.ref f) = some (.type "function") ∧ FnOk P w K mg base CX0 2 f fd ps (spOneErr K C fld) ∧ Binds K fd ps []
/-- the fields that such an error has -/
def oneFs (fld : Str) (i : Nat) : List (Str × V) := [(fld, .int i)]
theorem pmk_oneerr {X : Cx} {cn fld : Str} {ps : List Str} {C : Addr} {e : Expr} {es : List Expr} {ta : TA} {p pos : Pos} (NE : OneErr X.prog X.w X.K X.mg X.base cn fld ps C) (hr : Room 3 X.A) (hg : Gl X cn) (ha : PA X (e :: es) ta)
    (hdb : (cn == ("__debug__" : Str)) = false := by decide) (he : starEach (e :: es) X.env = (false, eval e X.env) :: starEach es X.env := by rfl) (hpl : (backTo pos (starEach es X.env)).any (·.1) = false := by rfl) :
    PMk X (.Call (.Name cn p) (e :: es) [] pos) (fun σ H Q => ta σ H fun vs H1 => ∃ (i : Nat), vs = [.int i] ∧ i < 1000 ∧ ∀ d H2, H1 d = none → H2 d = some (.xd (oneFs fld i)) → (∀ b, b ≠ d → H2 b = H1 b) → Q (.ref C) (some d) H2) := by
  obtain ⟨f, fd, iC, tI, F1, bI⟩ := NE.ini
  intro pins s σ H Q I h
  refine pmk_oex (X := X) (e := e) (es := es) (p := p) (pos := pos) (ds := []) (dvs := []) NE.T iC tI F1 hr bI .nil (fun _ _ _ _ _ _ _ z => z.elim) hg NE.g (pa_weak ha) hdb he hpl pins s σ H Q I ⟨_, h, fun vs H1 h1 => ?_⟩
  obtain ⟨i, rfl, il, q⟩ := h1
  refine ⟨by show 1 ≤ 1000; decide, fun a na => ⟨a, C, i, rfl, upd_same, NE.T, NE.SC, il, NE.f1, fun dx nd ne => ⟨rfl, dx, oneFs fld i, upd_same, (upd_ne ne).trans upd_same, ?_, ?_⟩⟩⟩
  · rw [upd_ne ne] at nd
    exact nd
  · rw [upd_ne ne] at nd
    refine q dx _ nd upd_same fun b hb => ?_
    rw [upd_ne hb]
    by_cases e : b = a
    · rw [e, del_same, na]
    · rw [del_ne e, upd_ne e, upd_ne hb, upd_ne e]
end
/-! ### orders that a net refuses -/
def BadOrds (K : PySem.W.Frag) (H : Hp) (p h : Nat) (v : V) (i : Nat) : Prop := (i = 0 ∧ ∃ t, TyX K H v (.type t) ∧ kitB t "tuple" = some false) ∨
  ∃ (t : Addr) (ts : List V) (os : List Od), v = .ref t ∧ H t = some (.tup ts) ∧ i < ts.length ∧ i ≤ 20 ∧ os.length = i ∧ Paired (OrdAt H) (ts.take i) os ∧ (∀ o ∈ os, OdOk p h o) ∧ (i = 20 ∨ ∃ x, ts[i]? = some x ∧ ∀ H', Same H H' → OrderLike K H' x p h false)
def spChkOrdersX (K : PySem.W.Frag) (C : Addr) : Sp := fun vs H _ E => ∃ (p h : Nat) (v : V) (i : Nat), vs = [.int p, .int h, v] ∧ BadOrds K H p h v i ∧ ∀ d H', Same H H' → H' d = some (.xd (netFs "orders" i)) → E (.ref C) (some d) H'
section
variable {P : Program} {w : World} {K : PySem.W.Frag} {mg : Str → Option Value} {base : Heap}
theorem ok_chk_ordersX {f C : Addr} {fd : FuncData} (F : Fun K "check_orders" "check_orders" s_check_orders f fd) (B : Blt mg) (NE : NetErr P w K mg base C) (DI : Df P w K mg base "is_order" 3 P_is_order (spIsOrder K)) (hM : ∃ t, mg "MOST_ORDERS" = some (.int 20 t)) : FnOk P w K mg base (L2.CX P w) 4 f fd P_check_orders (spChkOrdersX K C) := by
  obtain ⟨fI, fdI, gI, kI, bI, GI⟩ := DI
  obtain ⟨tk20, hM⟩ := hM
  refine F.okX sc_check_orders (fun vs H Q E h => ?_) (fun cdv A outer s H vs Q E hr h => ?_)
  · obtain ⟨p, h, v, i, rfl, _⟩ := h
    rfl
  · obtain ⟨p, h, v, i, rfl, hb, q⟩ := h
    refine ⟨_, pss_cons (ps_if (pt_not (pt_val (pe_callB call_isi (by rfl) B.isi PyProof.Rows.boot_isinstance (pa_cons (pv 2) (pa_cons (pe_bltn (v := .ty "tuple") (by rfl) B.tuple (by decide +kernel) rfl) pa_nil))))) (pss_one (ps_raise rfl (takes_of rfl rfl rfl rfl) (pmk_neterr NE hr (by rfl) (pa_cons pe_str (pa_cons pe_int pa_nil))))) pss_nil)
      (pss_one (ps_for (passes_of rfl) rfl (pi_enumT (by rfl) B.enum (pa_cons (pv 2) pa_nil)) (pg_tup (by rfl) (pgs_cons (pg_name (i := 3) sc_check_orders.nd rfl (.inl rfl)) (pgs_cons (pg_name (i := 4) sc_check_orders.nd rfl (.inl rfl)) pgs_nil)))
        (pss_one (ps_if (PW.pt (pw_or (pt_cmpR op_eq (pv 3) (pe_glob (v := .int 20) rfl hM ⟨_, rfl⟩) (nomark _)) (pw_or1 (pt_not (pt_val (pe_call GI hr (by rfl) gI kI bI .nil pass0 (pa_cons (pv 0) (pa_cons (pv 1) (pa_cons (pv 4) pa_nil)))))))))
          (pss_one (ps_raise rfl (takes_of rfl rfl rfl rfl) (pmk_neterr NE hr (by rfl) (pa_cons pe_str (pa_cons (pv 3) pa_nil))))) pss_nil)))), ?_⟩
    rcases hb with ⟨rfl, t, ty, kt⟩ | ⟨t, ts, os, rfl, ht, il, i20, ol, hP, hok, bad⟩
    · refine ⟨_, rfl, _, _, _, _, false, rfl, .ty "tuple", ty, kit_ty kt, _, rfl, iteT ?_⟩
      exact ⟨"orders", 0, rfl, by show 6 ≤ 100; decide, by decide, fun d H2 nd hd oth => q d H2 (same_ext nd oth) hd⟩
    · refine ⟨_, rfl, _, _, _, _, true, rfl, .ty "tuple", .base (.tup ht), kit_ty (by decide +kernel), _, rfl, iteF ?_⟩
      refine ⟨_, rfl, t, ts, rfl, ht, for_enumT (K := K) (a := t) (xs := ts) (fun j σ H' => (∃ x y, σ = [some (.int p), some (.int h), some (.ref t), x, y]) ∧ Same H H' ∧ j ≤ i) ⟨⟨_, _, rfl⟩, .refl H, Nat.zero_le _⟩ (fun j σ H' ⟨_, s1, _⟩ => s1 _ _ ht) ?_ ?_⟩
      · rintro j x σ H1 T hj ⟨⟨x3, x4, rfl⟩, s1, ji⟩ nT
        have s2 := same_upd (o := HO.tup [.int (j : Nat), x]) nT
        have s12 := s1.trans s2
        refine ⟨T, _, rfl, SqT.of upd_same, rfl, _, _, rfl, _, _, rfl, rfl, ?_⟩
        have rz : ∀ (H3 : Hp), Same H H3 → j = i → ∀ d H2, H3 d = none → H2 d = some (.xd (netFs "orders" j)) → (∀ b, b ≠ d → H2 b = H3 b) → E (.ref C) (some d) H2 := fun H3 s3 e d H2 nd hd oth => q d H2 (s3.trans (same_ext nd oth)) (by rw [← e]; exact hd)
        by_cases c : j = 20
        · have ei : j = i := by omega
          refine ⟨_, rfl, rfl, true, congrArg V.bl (decide_eq_true (by rw [c]; rfl)), iteT ?_⟩
          exact ⟨_, rfl, "orders", j, rfl, by show 6 ≤ 100; decide, by omega, rz _ s12 ei⟩
        · refine ⟨_, rfl, rfl, false, congrArg V.bl (decide_eq_false fun z => c (by have := V.int.inj z; omega)), iteF ?_⟩
          by_cases d : j = i
          · obtain ⟨x', hx', hlike⟩ := bad.resolve_left (fun z => c (by omega))
            obtain rfl : x' = x := Option.some.inj (hx'.symm.trans (by rw [← d]; exact hj))
            refine ⟨_, rfl, _, rfl, _, rfl, x', p, h, false, rfl, hlike _ s12, _, rfl, iteT ?_⟩
            exact ⟨_, rfl, "orders", j, rfl, by show 6 ≤ 100; decide, by omega, rz _ s12 d⟩
          · have lt : j < os.length := by omega
            obtain ⟨x', hx', ho⟩ := Paired.get? (i := j) hP (List.getElem?_eq_getElem lt)
            rw [List.getElem?_take_of_lt (by omega)] at hx'
            obtain rfl : x' = x := Option.some.inj (hx'.symm.trans hj)
            have hk := hok _ (List.getElem_mem lt)
            exact ⟨_, rfl, _, rfl, _, rfl, x', p, h, true, rfl, OrdAt.like hk (ho.keep (tk_of s12)), _, rfl, iteF ⟨⟨_, _, rfl⟩, s12, by omega⟩⟩
      · rintro σ H1 ⟨_, s1, ji⟩
        omega
end
/-! ### parts that a net refuses -/
def spInitX (K : PySem.W.Frag) (C : Addr) : Sp := fun vs H _ E => ∃ (x : Addr) (a b c : V) (part : Str) (i : Nat), vs = [.ref x, a, b, c] ∧
  ((part = "period" ∧ i = 0 ∧ Kn K H a ∧ withinB a 1 30 = false) ∨
   (∃ p : Nat, a = .int p ∧ 1 ≤ p ∧ p ≤ 30 ∧ ((part = "houses" ∧ i = 0 ∧ Kn K H b ∧ withinB b 1 10 = false) ∨ ∃ h : Nat, b = .int h ∧ 1 ≤ h ∧ h ≤ 10 ∧ part = "orders" ∧ BadOrds K H p h c i))) ∧
  ∀ d H', Same H H' → H' d = some (.xd (netFs part i)) → E (.ref C) (some d) H'
section
variable {P : Program} {w : World} {K : PySem.W.Frag} {mg : Str → Option Value} {base : Heap}
theorem ok_initX {f fC C : Addr} {fd fdC : FuncData} (F : Fun K "__init__" "Net.__init__" s_Net_init f fd) (NE : NetErr P w K mg base C) (DW : Df P w K mg base "is_within" 2 P_is_within (spWithin K)) (gC : mg "check_orders" = some (.ref fC)) (kC : PySem.W.keepIn K (.ref fC) = true) (bC : Binds K fdC P_check_orders []) (GC : FnOk P w K mg base (L2.CX P w) 4 fC fdC P_check_orders (spChkOrdersX K C))
    (hP : ∃ t, mg "LONGEST_PERIOD" = some (.int 30 t)) (hH : ∃ t, mg "MOST_HOUSES" = some (.int 10 t)) : FnOk P w K mg base (L2.CX P w) 5 f fd P_Net_init (spInitX K C) := by
  obtain ⟨fW, fdW, gW, kW, bW, GW⟩ := DW
  obtain ⟨tkP, hP⟩ := hP
  obtain ⟨tkH, hH⟩ := hH
  refine F.okX sc_Net_init (fun vs H Q E h => ?_) (fun cdv A outer s H vs Q E hr h => ?_)
  · obtain ⟨x, a, b, c, part, i, rfl, _⟩ := h
    rfl
  · obtain ⟨x, a, b, c, part, i, rfl, hc, q⟩ := h
    have hr1 : Room 2 _ := hr.mono (by decide)
    have hr3 : Room 3 _ := hr.mono (by decide)
    refine ⟨_, pss_cons (ps_if (pt_not (pt_val (pe_call GW hr1 (by rfl) gW kW bW .nil pass0 (pa_cons (pv 1) (pa_cons pe_int (pa_cons (pe_glob (v := .int 30) rfl hP ⟨_, rfl⟩) pa_nil)))))) (pss_one (ps_raise rfl (takes_of rfl rfl rfl rfl) (pmk_neterr NE hr3 (by rfl) (pa_cons pe_str (pa_cons pe_int pa_nil))))) pss_nil)
      (pss_cons (ps_if (pt_not (pt_val (pe_call GW hr1 (by rfl) gW kW bW .nil pass0 (pa_cons (pv 2) (pa_cons pe_int (pa_cons (pe_glob (v := .int 10) rfl hH ⟨_, rfl⟩) pa_nil)))))) (pss_one (ps_raise rfl (takes_of rfl rfl rfl rfl) (pmk_neterr NE hr3 (by rfl) (pa_cons pe_str (pa_cons pe_int pa_nil))))) pss_nil)
      (pss_cons (ps_expr (pe_call (E := E) GC hr (by rfl) gC kC bC .nil (passes_call (takes_of rfl rfl rfl rfl) fun _ _ _ _ z => z) (pa_cons (pv 1) (pa_cons (pv 2) (pa_cons (pv 3) pa_nil)))))
      (pss_cons ps_never (pss_cons ps_never (pss_cons ps_never (pss_one ps_never)))))), ?_⟩
    rcases hc with ⟨rfl, rfl, ka, wa⟩ | ⟨p, rfl, p1, p30, hc⟩
    · refine ⟨_, rfl, a, 1, 30, rfl, ka, _, rfl, ?_⟩
      rw [wa]
      exact iteT ⟨"period", 0, rfl, by show 6 ≤ 100; decide, by decide, fun d H2 nd hd oth => q d H2 (same_ext nd oth) hd⟩
    · have w1 : withinB (.int p) 1 30 = true := within_nat (lo := 1) (hi := 30) p1 p30
      refine ⟨_, rfl, .int p, 1, 30, rfl, .int, _, rfl, ?_⟩
      rw [w1]
      refine iteF ?_
      rcases hc with ⟨rfl, rfl, kb, wb⟩ | ⟨h, rfl, h1, h10, rfl, bad⟩
      · refine ⟨_, rfl, b, 1, 10, rfl, kb, _, rfl, ?_⟩
        rw [wb]
        exact iteT ⟨"houses", 0, rfl, by show 6 ≤ 100; decide, by decide, fun d H2 nd hd oth => q d H2 (same_ext nd oth) hd⟩
      · have w2 : withinB (.int h) 1 10 = true := within_nat (lo := 1) (hi := 10) h1 h10
        refine ⟨_, rfl, .int h, 1, 10, rfl, .int, _, rfl, ?_⟩
        rw [w2]
        exact iteF ⟨_, rfl, _, rfl, _, rfl, p, h, c, i, rfl, bad, q⟩
end
/-! ### the lines of a text, when one is wrong -/
def LineBad (k : Nat) (line : Str) : Prop := ∃ w0 ws vals, line.length ≤ 100000 ∧ Txt.split line " " = w0 :: ws ∧ ws.length ≤ 60 ∧ Paired Wk ws vals ∧ rowOf (if k = 0 then "net" else "order") (if k = 0 then 2 else 5) (w0 :: ws) vals = none
def spRowsX (D : Addr) : Sp := fun vs H _ E => ∃ (text : Str) (lines : List Str) (k : Nat) (bad : Str), vs = [.str text] ∧ text.length ≤ 100000 ∧ Txt.split text "\n" = lines ∧ lines.length ≤ 100 ∧ (∀ i l, i < k → lines[i]? = some l → ∃ r, LineOk i l r) ∧ lines[k]? = some bad ∧ LineBad k bad ∧
  ∀ d H', Same H H' → H' d = some (.xd (oneFs "line" k)) → E (.ref D) (some d) H'
section
variable {P : Program} {w : World} {K : PySem.W.Frag} {mg : Str → Option Value} {base : Heap}
theorem ok_rowsX {f D : Addr} {ps : List Str} {fd : FuncData} (F : Fun K "read_rows" "read_rows" s_read_rows f fd) (B : Blt mg) (NE : OneErr P w K mg base "TextFault" "line" ps D) (DL : Df P w K mg base "read_line" 3 P_read_line spLine) : FnOk P w K mg base (L2.CX P w) 4 f fd P_read_rows (spRowsX D) := by
  obtain ⟨fL, fdL, gL, kL, bL, GL⟩ := DL
  refine F.okX sc_read_rows (fun vs H Q E h => ?_) (fun cdv A outer s H vs Q E hr h => ?_)
  · obtain ⟨text, lines, k, bad, rfl, _⟩ := h
    rfl
  · obtain ⟨text, lines, k, bad, rfl, ht, hs, hl, hok, hk, hbad, q⟩ := h
    refine ⟨_, pss_cons (ps_if (pt_not (pt_val (pe_callB call_isi (by rfl) B.isi PyProof.Rows.boot_isinstance (pa_cons (pv 0) (pa_cons (pe_bltn (v := .ty "str") (by rfl) B.str (by decide +kernel) rfl) pa_nil))))) (pss_one ps_never) pss_nil)
      (pss_cons (ps_set (i := 1) sc_read_rows.nd rfl (.inl rfl) (pe_lst pa_nil))
      (pss_cons (ps_asg (pe_tup (pa_cons pe_str (pa_cons pe_int pa_nil))) (pg_tup (by rfl) (pgs_cons (pg_name (i := 2) sc_read_rows.nd rfl (.inl rfl)) (pgs_cons (pg_name (i := 3) sc_read_rows.nd rfl (.inl rfl)) pgs_nil))))
      (pss_cons (ps_for (passes_of rfl) rfl (pi_enum (by rfl) B.enum (pa_cons (pe_split (pv 0) pe_str) pa_nil)) (pg_tup (by rfl) (pgs_cons (pg_name (i := 4) sc_read_rows.nd rfl (.inl rfl)) (pgs_cons (pg_name (i := 5) sc_read_rows.nd rfl (.inl rfl)) pgs_nil)))
        (pss_cons (ps_set (i := 6) sc_read_rows.nd rfl (.inl rfl) (pe_call GL hr (by rfl) gL kL bL .nil pass0 (pa_cons (pv 5) (pa_cons (pv 2) (pa_cons (pv 3) pa_nil)))))
        (pss_cons (ps_if (pt_cmpR op_isN (pv 6) pe_non (nomark _)) (pss_one (ps_raise rfl (takes_of rfl rfl rfl rfl) (pmk_oneerr NE hr (by rfl) (pa_cons (pv 4) pa_nil)))) pss_nil)
        (pss_cons (ps_expr (pe_bm PySem.F.plainAttrs_list PySem.F.slot_list_append PySem.F.type_list_append mt_append (pv 1) (pa_cons (pv 6) pa_nil)))
        (pss_one (ps_asg (pe_tup (pa_cons pe_str (pa_cons pe_int pa_nil))) (pg_tup (by rfl) (pgs_cons (pg_name (i := 2) sc_read_rows.nd rfl (.inl rfl)) (pgs_cons (pg_name (i := 3) sc_read_rows.nd rfl (.inl rfl)) pgs_nil)))))))))
      (pss_one ps_never)))), ?_⟩
    have kl : k < lines.length := (List.getElem?_eq_some_iff.mp hk).1
    refine ⟨_, rfl, _, _, _, _, true, rfl, .ty "str", .base (.str text), kit_ty (by decide +kernel), _, rfl, iteF ?_⟩
    refine ⟨Nat.zero_le _, fun r nr => ?_⟩
    refine ⟨(by show 2 ≤ sizeLine; decide), fun k0 nk0 => ⟨k0, _, rfl, SqT.of upd_same, rfl, _, _, rfl, _, _, rfl, rfl, ?_⟩⟩
    refine ⟨_, rfl, ⟨_, rfl⟩, text, "\n", rfl, rfl, rfl, by rw [sizeLine_eq]; omega, fun sp nsp => ?_⟩
    rw [hs]
    have s1 := same_upd (o := HO.lst []) nr
    have s0 := same_upd (o := HO.tup [.str "net", .int 2]) nk0
    have s2 := same_upd (o := HO.lst (lines.map V.str)) nsp
    have nrs : r ≠ sp := ne_of_none (s0 _ _ upd_same) nsp
    refine ⟨sp, _, rfl, SqL.of upd_same, for_enumL (K := K) (a := sp) (xs := lines.map V.str) (fun i σ H' => i ≤ k ∧ (∃ x4 x5 x6, σ = [some (.str text), some (.ref r), some (.str (if i = 0 then "net" else "order")), some (.int ((if i = 0 then 2 else 5 : Nat) : Int)), x4, x5, x6]) ∧ Same H H' ∧ H' sp = some (.lst (lines.map V.str)) ∧ ∃ us, H' r = some (.lst us) ∧ us.length = i)
      ⟨Nat.zero_le _, ⟨_, _, _, rfl⟩, s1.trans (s0.trans s2), upd_same, [], (upd_ne nrs).trans (s0 _ _ upd_same), rfl⟩ (fun i σ H' ⟨_, _, _, h', _⟩ => h') ?_ ?_⟩
    · rintro i x σ H1 T hi ⟨ik, ⟨x4, x5, x6, rfl⟩, s3, hsp, us, hus, hul⟩ nTT
      rw [List.getElem?_map] at hi
      obtain ⟨line, hline, rfl⟩ := Option.map_eq_some_iff.mp hi
      have s4 := same_upd (o := HO.tup [.int (i : Nat), .str line]) nTT
      refine ⟨T, _, rfl, SqT.of upd_same, rfl, _, _, rfl, _, _, rfl, rfl, ?_⟩
      by_cases c : i < k
      · obtain ⟨row, w0, ws, vals, a1, a2, a3, a4, a5⟩ := hok i line c hline
        refine ⟨_, rfl, _, rfl, _, rfl, line, _, w0, (if i = 0 then 2 else 5), ws, vals, rfl, a1, a2, a3, a4, fun H2 v s5 hv => ?_⟩
        rw [a5] at hv
        obtain ⟨u, rfl, nu, hu⟩ := hv
        have s45 := s4.trans s5
        have hr2 := s45 _ _ hus
        have hsp2 := s45 _ _ hsp
        refine ⟨_, rfl, rfl, _, rfl, iteF ⟨_, rfl, .inl ⟨rfl, _, SqL.of hr2⟩, _, rfl, r, _, _, rfl, rfl, hr2, ?_, ?_⟩⟩
        · rw [hul]
          exact small1000 (by omega)
        refine ⟨(by show 2 ≤ sizeLine; decide), fun k1 nk1 => ⟨k1, _, rfl, SqT.of upd_same, rfl, _, _, rfl, _, _, rfl, rfl, ?_⟩⟩
        have s6 := same_upd (o := HO.tup [.str "order", .int 5]) nk1
        refine ⟨c, ⟨_, _, _, rfl⟩, fun b o e => s6 _ _ ?_, s6 _ _ ((upd_ne nrs.symm).trans hsp2), us ++ [.ref u], s6 _ _ upd_same, by rw [List.length_append, hul]; rfl⟩
        rw [upd_ne (ne_of_none e nr)]
        exact s45 _ _ (s3 _ _ e)
      · obtain rfl : i = k := by omega
        obtain rfl : bad = line := Option.some.inj (hk.symm.trans hline)
        obtain ⟨w0, ws, vals, a1, a2, a3, a4, a5⟩ := hbad
        refine ⟨_, rfl, _, rfl, _, rfl, bad, _, w0, (if i = 0 then 2 else 5), ws, vals, rfl, a1, a2, a3, a4, fun H2 v s5 hv => ?_⟩
        rw [a5] at hv
        have hv : v = .non := hv
        subst hv
        refine ⟨_, rfl, rfl, _, rfl, iteT ?_⟩
        exact ⟨_, rfl, i, rfl, by omega, fun d H3 nd hd oth => q d H3 ((s3.trans (s4.trans s5)).trans (same_ext nd oth)) hd⟩
    · rintro σ H1 ⟨ik, _⟩
      rw [List.length_map] at ik
      omega
end
/-! ### the text of a net, when it is wrong: a line, or its parts -/
def spParseX (K : PySem.W.Frag) (C D N : Addr) : Sp := fun vs H Q E => ∃ (text : Str), vs = [.ref C, .str text] ∧ text.length ≤ 100000 ∧
  ((∃ (k : Nat) (bad : Str), (Txt.split text "\n").length ≤ 100 ∧ (∀ i l, i < k → (Txt.split text "\n")[i]? = some l → ∃ r, LineOk i l r) ∧ (Txt.split text "\n")[k]? = some bad ∧ LineBad k bad ∧ ∀ d H', Same H H' → H' d = some (.xd (oneFs "line" k)) → E (.ref D) (some d) H') ∨
   ∃ (p h : Nat) (rows : List (List Nat)), (Txt.split text "\n").length = rows.length + 1 ∧ rows.length + 1 ≤ 100 ∧ (∀ k l r, (Txt.split text "\n")[k]? = some l → ([p, h] :: rows)[k]? = some r → LineOk k l r) ∧
     ∀ H1 x u us, Same H H1 → H1 u = some (.tup us) → Paired (RowTup H1) us rows → spInitX K N [.ref x, .int p, .int h, .ref u] H1 Q E)
section
variable {P : Program} {w : World} {K : PySem.W.Frag} {mg : Str → Option Value} {base : Heap}
theorem ok_parseX {f C D N fI : Addr} {fd fdI : FuncData} (F : Fun K "parse" "Net.parse" s_Net_parse f fd) (B : Blt mg) {fR : Addr} {fdR : FuncData} (gR : mg "read_rows" = some (.ref fR)) (kR : PySem.W.keepIn K (.ref fR) = true) (bR : Binds K fdR P_read_rows []) (GR : FnOk P w K mg base CX0 4 fR fdR P_read_rows spRows) (GRX : FnOk P w K mg base (L2.CX P w) 4 fR fdR P_read_rows (spRowsX D))
    (M : Mk K C fI) (GI : FnOk P w K mg base (L2.CX P w) 5 fI fdI P_Net_init (spInitX K N)) (bI : Binds K fdI P_Net_init []) : FnOk P w K mg base (L2.CX P w) 7 f fd P_Net_parse (spParseX K C D N) := by
  have GRB := FnOk.or (FnOk.up GR) GRX
  refine F.okX sc_Net_parse (fun vs H Q E h => ?_) (fun cdv A outer s H vs Q E hr h => ?_)
  · obtain ⟨text, rfl, _⟩ := h
    rfl
  · obtain ⟨text, rfl, ht, h⟩ := h
    have hr3 : Room 4 _ := hr.mono (by decide)
    refine ⟨_, pss_cons (ps_set (i := 2) sc_Net_parse.nd rfl (.inl rfl) (pe_call (E := E) GRB hr3 (by rfl) gR kR bR .nil (passes_call (takes_of rfl rfl rfl rfl) fun _ _ _ _ z => z) (pa_cons (pv 1) pa_nil)))
      (pss_cons (ps_asg (pe_ix ix_list (pv 2) pe_int (fun _ _ => rfl)) (pg_tup (by rfl) (pgs_cons (pg_name (i := 3) sc_Net_parse.nd rfl (.inl rfl)) (pgs_cons (pg_name (i := 4) sc_Net_parse.nd rfl (.inl rfl)) pgs_nil))))
      (pss_one (ps_ret (pe_makeL (E := E) (i := 0) M GI hr rfl (.inl rfl) bI .nil (passes_call (takes_of rfl rfl rfl rfl) fun _ _ _ _ z => z) (pa_cons (pv 3) (pa_cons (pv 4) (pa_cons (pe_callTy call_tuple_of (by rfl) B.tuple (by decide +kernel) (pa_cons (pe_slice sl_list (pv 2) (po_some pe_int) po_none) pa_nil)) pa_nil))))))), ?_⟩
    rcases h with ⟨k, bad, h100, hok, hk, hbad, q⟩ | ⟨p, h, rows, hl, h100, hok, q⟩
    · exact ⟨_, rfl, .inr ⟨text, _, k, bad, rfl, ht, rfl, h100, hok, hk, hbad, q⟩⟩
    · refine ⟨_, rfl, .inl ⟨text, _, [p, h] :: rows, rfl, ht, rfl, hl, h100, hok, fun H1 r us s1 nr hr1 hus => ?_⟩⟩
      cases hus with
      | cons hu0 hus =>
      rename_i v0 us
      obtain ⟨u0, rfl, hu0⟩ := hu0
      refine ⟨_, rfl, r, _, 0, _, rfl, rfl, SqL.of hr1, atI_nat (j := 0) rfl, u0, _, rfl, SqT.of hu0, rfl, _, _, rfl, _, _, rfl, rfl, ?_⟩
      refine ⟨rfl, _, rfl, _, rfl, _, rfl, 1, rfl, r, _, rfl, SqL.of hr1, fun cl ncl => ?_⟩
      rw [show cutV (V.ref u0 :: us) (some (1 : Int)) none = (V.ref u0 :: us).drop 1 from cut_from (n := 1)]
      have s2 := same_upd (o := HO.lst ((V.ref u0 :: us).drop 1)) ncl
      refine ⟨cl, us, rfl, .inl ⟨SqL.of upd_same, fun tt ntt => ?_⟩⟩
      have s3 := same_upd (o := HO.tup us) ntt
      have s13 := s1.trans (s2.trans s3)
      have h3 : (upd (upd H1 cl (.lst ((V.ref u0 :: us).drop 1))) tt (.tup us)) tt = some (.tup us) := upd_same
      have hU : Paired (RowTup (upd (upd H1 cl (.lst ((V.ref u0 :: us).drop 1))) tt (.tup us))) us rows := Paired.mapP hus fun _ _ z => z.keep (tk_of (s2.trans s3))
      generalize (upd (upd H1 cl (.lst ((V.ref u0 :: us).drop 1))) tt (.tup us)) = H3 at s13 h3 hU
      intro x dx nx ndx nex
      have s0 : Same H3 (upd (upd H3 dx (.own x)) x (.ins C dx [])) := same_updN (same_upd ndx) nx
      exact q _ x tt us (s13.trans s0) (s0 _ _ h3) (Paired.mapP hU fun _ _ z => z.keep (tk_of s0))
end
/-! ### an own error is made while another is handled: 130a, 130c, 130f, 134a told again -/
section
open PySem.Spec PyProof.Rows
def supCxH (P : Program) (w : World) (K : PySem.W.Frag) (mg : Str → Option Value) (base : Heap) (N : List Str) (qual : Str) (scope : Scope) (f cda cc : Addr) (A : Around) (outer : List Env) (s : Shared) (H : Hp) (p : Addr × Obj) : Cx :=
  { supCx P w K mg base N qual scope f cda cc A outer s H with calm := false, pn := [p] }
theorem sup_startH {P : Program} {w : World} {K : PySem.W.Frag} {mg : Str → Option Value} {base : Heap} {N ps : List Str} {qual : Str} {scope : Scope} {f cda cc D : Addr} {A : Around} {outer : List Env} {s : Shared} {H : Hp} {us : List Value} {vs : List V} {h₁ : Heap} {tk : Nat}
    (S : SupSc N ps scope) {p : Addr × Obj} (hpin : L2H.PinOk outer H s p) (e0 : Env0 P w K mg base A outer s H) (hl : vs.length = ps.length) (r : Vals vs us) (hc : CellK K cc D) (hb : ∃ o, base.get? cc = some o)
    (hns : h₁.Ns s.heap.objs.size fun x => (ps.zip us).reverse.lookup x) (kp : ∀ b o, s.heap.get? b = some o → h₁.get? b = some o) :
    Inv (supCxH P w K mg base N qual scope f cda cc A outer s H p) [] (L2.start N vs) H { s with heap := h₁, toks := tk } := by
  obtain ⟨cl, cld, csl, lk⟩ := hc
  obtain ⟨oc, hoc⟩ := hb
  have K1 : K.In s.heap := e0.mod.kin.keeps fun b o e => (e0.bs b o e).1
  have none_ : ∀ {b : Addr}, b ∈ ([] : List Addr) → False := fun z => nomatch z
  have isc : h₁.IsCell cc (some (.ref D)) := ⟨_, kp _ _ (K1 _ _ lk), rfl⟩
  have one : ∀ {y : Str} {c : Addr}, ([("__class__", cc)] : List (Str × Addr)).lookup y = some c → y = "__class__" ∧ c = cc := fun {y c} e => by
    have := PySem.mem_of_lookup e
    cases List.mem_singleton.mp this
    exact ⟨rfl, rfl⟩
  refine ⟨⟨e0.mod, S.kind, rfl, rfl, Nat.le_refl _, fun y z c e1 e2 => (one e1).1.trans (one e2).1.symm, fun y hy => ?_, fun y c z _ => (nomatch (show false = true from z)), (fun z => Bool.noConfusion (show false = true from z)), Around.frames_deeper e0.frames, .inr ⟨rfl, rfl⟩, fun b z => (none_ z).elim, e0.bs, e0.bsz, fun b _ _ z => none_ z, fun b z => (none_ z).elim, e0.funs, e0.frf⟩,
    rfl, e0.bare, Un.kept kp, ⟨_, hns, fun i y v e1 e2 e3 => ?_⟩, fun y c e => ?_, e0.hok.fresh (Nat.le_refl _), fun y c e => ?_, fun q hq => ?_, e0.hok.kept kp, ?_⟩
  · have hy : scope.names.lookup y = some .cell ∨ scope.names.lookup y = some .free := hy
    rcases hy with hy | hy
    · exact absurd rfl (S.nocell _ (PySem.mem_of_lookup hy))
    · rw [S.free y hy]
      exact ⟨cc, rfl⟩
  · have e2 : (vs.map some ++ List.replicate (N.length - vs.length) none)[i]? = some (some v) := e2
    have hN : N.length - vs.length = 0 := by rw [S.pre, hl]; exact Nat.sub_self _
    rw [hN, List.replicate_zero, List.append_nil, List.getElem?_map] at e2
    obtain ⟨a, ha, ea⟩ := Option.map_eq_some_iff.mp e2
    cases ea
    obtain ⟨u, hu, rv⟩ := r.get ha
    have e1 : N[i]? = some y := e1
    have hp : ps[i]? = some y := by rw [← S.pre]; exact e1
    exact ⟨u, rv, .inl ⟨S.par y (List.mem_of_getElem? hp), zip_lookup (by rw [← r.length, hl]) (by rw [← S.pre]; exact S.nd) hp hu⟩⟩
  · obtain ⟨rfl, rfl⟩ := one e
    exact ⟨_, isc⟩
  · obtain ⟨rfl, rfl⟩ := one e
    exact (e0.bs _ _ hoc).2
  · have eq : q = p := by simpa using (show q ∈ [p] ++ ([] : List (Addr × Obj)) from hq)
    rw [eq]
    exact ⟨kp p.1 p.2 hpin.get, hpin.free, Nat.ne_of_lt (Heap.lt_size hpin.get), hpin.nofs, hpin.nocell⟩
  · show (vs.map some ++ List.replicate (N.length - vs.length) none).length = N.length
    rw [List.length_append, List.length_map, List.length_replicate, S.pre, hl, Nat.sub_self, Nat.add_zero]
end
section
open PySem.Spec PyProof.Rows
variable {P : Program} {w : World} {K : PySem.W.Frag} {mg : Str → Option Value} {base : Heap}
theorem fn_supH {k : Nat} {f cda cc D : Addr} {qual : Str} {params : Arguments} {scope : Scope} {kV doc pm ct oc : Value} {an od : Option Addr} {osl : Array (Option Value)} {N ps : List Str} {sp : Sp} {e : Expr} {rest : List Stmt} {p0 p1 p2 p3 p4 : Pos} {pl : Sem Bool}
    (lk : K.lookup f = some ⟨oc, od, .func (PySem.W.ksFn "__init__" qual params (.Expr (.Call (.Attribute (.Call (.Name "super" p0) [] [] p1) "__init__" p2) [e] [] p3) p4 :: rest) scope .none kV doc pm an (.ref cda) ct cc), osl⟩) (hcd : PySem.W.codeIn K (.ref cda) qual = true) (S : SupSc N ps scope) (h0 : N[0]? = some ("self" : Str))
    (SI : SupI P K mg scope f cda cc D (PySem.W.ksFn "__init__" qual params (.Expr (.Call (.Attribute (.Call (.Name "super" p0) [] [] p1) "__init__" p2) [e] [] p3) p4 :: rest) scope .none kV doc pm an (.ref cda) ct cc))
    (len : ∀ vs H Q E, sp vs H Q E → vs.length = ps.length)
    (hev : ∀ L : Addr, eval (.Call (.Attribute (.Call (.Name "super" p0) [] [] p1) "__init__" p2) [e] [] p3) (supEnv qual scope L f cda cc) = (do
      let ov ← attributeBase (.Call (.Name "super" p0) [] [] p1) "__init__" (supEnv qual scope L f cda cc) (eval (.Call (.Name "super" p0) [] [] p1) (supEnv qual scope L f cda cc))
      standAt p2.atName
      let (fv, first) ← holding [ov] (getMethod ov "__init__" pl)
      callWith p3 fv first (backTo p3 (starEach [e] (supEnv qual scope L f cda cc))) []))
    (he : ∀ L : Addr, starEach [e] (supEnv qual scope L f cda cc) = (false, eval e (supEnv qual scope L f cda cc)) :: starEach [] (supEnv qual scope L f cda cc)) (hpl : ∀ L : Addr, (backTo p3 (starEach [] (supEnv qual scope L f cda cc))).any (·.1) = false)
    (hi : ∀ L : Addr, interactive (supEnv qual scope L f cda cc) = false) (hs : ∀ L : Addr, swapsWith (.Call (.Attribute (.Call (.Name "super" p0) [] [] p1) "__init__" p2) [e] [] p3) none p4.line (supEnv qual scope L f cda cc) = pure false)
    (hbody : ∀ (A : Around) (outer : List Env) (s : Shared) (H : Hp) (vs : List V) (Q : VK) (E : XK) (p : Addr × Obj), L2H.Hot1 A p → L2H.RoomH k (A.deeper (supEnv qual scope s.heap.objs.size f cda cc)) → sp vs H Q E →
      ∃ (a C : Addr) (ta : TA) (t : TS), vs[0]? = some (.ref a) ∧ H a = some (exo a C none) ∧ OexC K C ∧ SupC K C D ∧ PA (supCxH P w K mg base N qual scope f cda cc A outer s H p) [e] ta ∧ PSs (supCxH P w K mg base N qual scope f cda cc A outer s H p) rest t ∧
        ta (L2.start N vs) H fun ws H1 => ws.length ≤ 1000 ∧ H1 a = some (exo a C none) ∧ t { nx := fun _ H' => Q .non H', rt := Q } (L2.start N vs) H1) :
    L2H.FnH P w K mg base CX0 (k + 1) f (PySem.W.ksFn "__init__" qual params (.Expr (.Call (.Attribute (.Call (.Name "super" p0) [] [] p1) "__init__" p2) [e] [] p3) p4 :: rest) scope .none kV doc pm an (.ref cda) ct cc) ps sp := by
  refine ⟨len, fun A outer s H args us vs Q E p hr hot hpin e0 hb r hsp => ?_⟩
  have hl := len _ _ _ _ hsp
  have KX : K.In s.heap := e0.mod.kin.keeps fun b o e => (e0.bs b o e).1
  have lim : s.heap.NoLimit := e0.mod.nolimit.keeps fun b o e => (e0.bs b o e).1
  obtain ⟨cl, cld, csl, lkl⟩ := id SI.cell
  have hcc : ∃ o, base.get? cc = some o := ⟨_, e0.mod.kin _ _ lkl⟩
  refine PySem.ks_codeAny_call_defAt hr.depth (KX _ _ lk) rfl lim (PySem.W.codeRec_of KX hcd) rfl hb (fun y hy => S.nocell y hy) (fun y hy => S.par y.1 (List.of_mem_zip (a := y.1) (b := y.2) hy).1) (fun h₁ hns kp => ?_) S.co S.gen S.kind
  obtain ⟨a, C, ta, t, ea, hea, T, SC, hPA, hPS, q⟩ := hbody A outer s H vs Q E p hot (hr.deeper _) hsp
  have I := sup_startH (cda := cda) (f := f) (qual := qual) (tk := s.toks + (ps.zip us).length) S hpin e0 hl r SI.cell hcc hns kp
  have hσ : (L2.start N vs)[0]? = some (some (.ref a)) := by
    unfold L2.start
    have h1 : 0 < (vs.map some).length := by
      rw [List.length_map]
      exact (List.getElem?_eq_some_iff.mp ea).1
    rw [List.getElem?_append_left h1, List.getElem?_map, ea]
    rfl
  refine PySem.ks_wpAt_execs_cons (PySem.ks_wpAt_mono (sup_row (X := supCxH P w K mg base N qual scope f cda cc A outer s H p) (R := fun H1 => t { nx := fun _ H' => Q .non H', rt := Q } (L2.start N vs) H1) (i := 0) (e := e) (p0 := p0) (p1 := p1) (p2 := p2) (p3 := p3) (p4 := p4) (pl := pl) SI rfl rfl rfl h0 hPA (hi _) (hev _) (he _) (hpl _) (hs _) I hσ hea T SC q) (fun fl s' hq => ?_) fun _ _ z => z.elim)
  · obtain ⟨rfl, H1, J, ht⟩ := hq
    refine PySem.wpAt_of_wpAny (wpAny_mono (hPS.run [] s' (L2.start N vs) H1 _ J ht) (fun fl2 s2 hs2 => ?_) fun _ _ z => z.elim)
    have fin : ∀ {σ' : L2.St} {H' : Hp} {v : V} {u : Value}, Inv (supCxH P w K mg base N qual scope f cda cc A outer s H p) [] σ' H' s2 → L2.RelV v u → Q v H' → CE outer P w H s Q u s2 :=
      fun {σ' H' v u} J rv q => ⟨v, H', J.os, J.bare, J.base, J.hok, rv, q⟩
    cases fl2 with
    | ret u =>
      obtain ⟨v, σ', H', J, rv, q⟩ := hs2
      exact fin J rv q
    | next =>
      obtain ⟨σ', H', J, q⟩ := hs2
      exact fin (v := V.non) (u := Value.none) J rfl q
    | brk =>
      obtain ⟨_, _, _, q⟩ := hs2
      exact False.elim q
    | cont =>
      obtain ⟨_, _, _, q⟩ := hs2
      exact False.elim q
end
section
open PySem.Spec PyProof.Rows
variable {P : Program} {w : World} {K : PySem.W.Frag} {mg : Str → Option Value} {base : Heap}
theorem ok_operrH {f cda cc D : Addr} {fd : FuncData} (F : FunS K "InvalidOperation.__init__" s_InvalidOperation_init f cda cc fd) (SI : SupI P K mg (defScope s_InvalidOperation_init) f cda cc D fd) : L2H.FnH P w K mg base CX0 2 f fd P_InvalidOperation_init (spOneErr K D "place") := by
  obtain ⟨oc, od, osl, kV, doc, pm, an, ct, rfl, lk, hcd⟩ := F.ex
  refine fn_supH (N := N_InvalidOperation_init) (ps := P_InvalidOperation_init) lk hcd sc_InvalidOperation_init rfl SI (fun vs H Q E h => ?_) (fun L => by rfl) (fun L => by rfl) (fun L => by rfl) (fun L => by rfl) (fun L => by rfl) (fun A outer s H vs Q E pn hot hr h => ?_)
  · obtain ⟨a, C, i, rfl, _⟩ := h
    rfl
  · obtain ⟨a, C, i, rfl, ha, T, SC, il, f1, q⟩ := h
    refine ⟨a, C, _, _, rfl, ha, T, SC, pa_cons (pe_joined (.cons pe_str (.cons (pe_fmt (pv 1)) .nil))) pa_nil, pss_one (ps_ost (pv 0) (pv 1)), ?_⟩
    have hi := num_len i il
    have z0 : (Str.empty ++ ("invalid operation at place " : Str)).length = 27 := by decide +kernel
    refine ⟨_, rfl, by rw [z0, sizeLine_eq]; omega, ?_⟩
    refine ⟨_, rfl, .inr ⟨_, rfl, log_1000 il, nT i, rfl, by rw [len_app, z0, sizeLine_eq]; omega, ?_⟩⟩
    exact ⟨by show 1 ≤ 1000; decide, ha, _, rfl, _, rfl, a, C, rfl, T, f1, .inl ⟨ha, fun dx nd ne => q dx nd ne⟩⟩
end
section
open PySem.Spec PyProof.Rows
structure OneErrH (P : Program) (w : World) (K : PySem.W.Frag) (mg : Str → Option Value) (base : Heap) (cn fld : Str) (ps : List Str) (C : Addr) : Prop where
  g : mg cn = some (.ref C)
  T : OexC K C
  SC : SupC K C C
  f1 : PySem.W.findIn K (.ref C) fld = some none
  ini : ∃ (f : Addr) (fd : FuncData), PySem.W.findIn K (.ref C) "__init__" = some (some (.ref f)) ∧ PySem.W.typeIn K (.ref f) = some (.type "function") ∧ L2H.FnH P w K mg base CX0 2 f fd ps (spOneErr K C fld) ∧ Binds K fd ps []
theorem pmk5_oneerrH {X : Cx} {cn fld : Str} {ps : List Str} {C : Addr} {e : Expr} {es : List Expr} {ta : TA} {p pos : Pos} (NE : OneErrH X.prog X.w X.K X.mg X.base cn fld ps C) (hr : L2H.RoomH 3 X.A) (hc : L2H.HotC X) (hg : Gl X cn) (ha : PA X (e :: es) ta)
    (hdb : (cn == ("__debug__" : Str)) = false := by decide) (he : starEach (e :: es) X.env = (false, eval e X.env) :: starEach es X.env := by rfl) (hpl : (backTo pos (starEach es X.env)).any (·.1) = false := by rfl) :
    L2H.PMk5 X (.Call (.Name cn p) (e :: es) [] pos) (fun σ H Q => ta σ H fun vs H1 => ∃ (i : Nat), vs = [.int i] ∧ i < 1000 ∧ ∀ d H2, H1 d = none → H2 d = some (.xd (oneFs fld i)) → (∀ b, b ≠ d → H2 b = H1 b) → Q (.ref C) (some d) H2) := by
  obtain ⟨f, fd, iC, tI, F1, bI⟩ := NE.ini
  intro pins s σ H Q I h
  refine L2H.pmk5_oexH (X := X) (e := e) (es := es) (p := p) (pos := pos) NE.T iC tI F1 hr hc bI (fun _ _ _ _ _ _ _ z => z.elim) hg NE.g (pa_weak ha) hdb he hpl pins s σ H Q I ⟨_, h, fun vs H1 h1 => ?_⟩
  obtain ⟨i, rfl, il, q⟩ := h1
  refine ⟨by show 1 ≤ 1000; decide, fun a na => ⟨a, C, i, rfl, upd_same, NE.T, NE.SC, il, NE.f1, fun dx nd ne => ⟨rfl, dx, oneFs fld i, upd_same, (upd_ne ne).trans upd_same, ?_, ?_⟩⟩⟩
  · rw [upd_ne ne] at nd
    exact nd
  · rw [upd_ne ne] at nd
    refine q dx _ nd upd_same fun b hb => ?_
    rw [upd_ne hb]
    by_cases e : b = a
    · rw [e, del_same, na]
    · rw [del_ne e, upd_ne e, upd_ne hb, upd_ne e]
end
/-! ### a law that makes lambdas: its own def, its table, what stands when a table grows -/
open LamX (Tabs TabS ExtN TabB CodeO) in
section
variable {K : PySem.W.Frag}
structure FunC (K : PySem.W.Frag) (x qual : Str) (st : Stmt) (f : Addr) (fd : FuncData) (c : Addr) : Prop where
  ex : ∃ (oc : Value) (od : Option Addr) (kV doc pm : Value) (an : Option Addr) (ct : Value) (osl : Array (Option Value)),
    fd = PySem.W.fnOf x qual (defArgs st) (defBody st) (defScope st) .none kV doc pm an (.ref c) ct ∧ K.lookup f = some ⟨oc, od, .func fd, osl⟩ ∧ PySem.W.codeIn K (.ref c) qual = true
theorem FunC.ok {P : Program} {w : World} {mg : Str → Option Value} {base : Heap} {x qual : Str} {st : Stmt} {f c : Addr} {fd : FuncData} {N ps : List Str} {k : Nat} {sp : Sp} (F : FunC K x qual st f fd c) (S : FnScope N ps (defScope st)) (len : ∀ vs H Q E, sp vs H Q E → vs.length = ps.length)
    (hbody : ∀ (A : Around) (outer : List Env) (s : Shared) (H : Hp) (vs : List V) (Q : VK) (E : XK), Room k (A.deeper (PyProof.Rows.envOfC qual (defScope st) s.heap.objs.size f (.ref c))) → sp vs H Q E →
      ∃ t, PSs (cxOf CX0 P w K mg base N qual (defScope st) f (.ref c) A outer s H E).nox (defBody st) t ∧ t { nx := fun _ H' => Q .non H', rt := Q } (L2.start N vs) H) : FnOk P w K mg base CX0 (k + 1) f fd ps sp := by
  obtain ⟨oc, od, kV, doc, pm, an, ct, osl, rfl, lk, hcd⟩ := F.ex
  refine fn_of lk hcd S len fun A outer s H vs Q E hr hsp => ?_
  obtain ⟨t, h, q⟩ := hbody A outer s H vs Q E hr hsp
  exact ⟨t, h.nox, q⟩
/-- the law's promise where its code object's table is Pt -/
def spLawT (K : PySem.W.Frag) (Pt : Addr) : Sp := fun vs H Q _ => ∃ (a : Addr) (ns : List Int), vs = [.ref a] ∧ SqL K H a (ns.map V.int) ∧ ns.length ≤ 63 ∧ H Pt = some (.tbl #[]) ∧ ∀ H', Q (.bl true) H'
theorem codeO_lst {c : Addr} {q : Str} {xs : List V} : CodeO c q ≠ .lst xs := fun z => by
  unfold CodeO at z
  cases z
theorem codeO_ins {c C dx : Addr} {q : Str} {fs : List (Str × V)} : CodeO c q ≠ .ins C dx fs := fun z => by
  unfold CodeO at z
  cases z
theorem tabs_but {T : List (Addr × Str)} {H H' : Hp} {d : Addr} {o : HO} (t : Tabs T H) (b : But d H H') (hd : H d = some o) (n1 : ∀ ps, o ≠ .tbl ps) (n2 : ∀ c q, o ≠ CodeO c q) : Tabs T H' := fun p hp => by
  obtain ⟨ps, h1, h2, h3⟩ := t p hp
  refine ⟨ps, b _ _ (fun z => ?_) h1, h2, fun pos cv hc => ?_⟩
  · rw [z, hd] at h1
    exact n1 _ (Option.some.inj h1)
  · obtain ⟨c, e, h4⟩ := h3 pos cv hc
    refine ⟨c, e, b _ _ (fun z => ?_) h4⟩
    rw [z, hd] at h4
    exact n2 _ _ (Option.some.inj h4)
theorem tabs_butL {T : List (Addr × Str)} {H H' : Hp} {d : Addr} {xs : List V} (t : Tabs T H) (b : But d H H') (hd : H d = some (.lst xs)) : Tabs T H' := tabs_but t b hd (fun ps z => by cases z) fun c q z => codeO_lst z.symm
theorem tabs_butD {T : List (Addr × Str)} {H H' : Hp} {d : Addr} (t : Tabs T H) (b : But d H H') (D : DAt H d) : Tabs T H' := by
  obtain ⟨_, _, _, _, _, hd⟩ := D
  exact tabs_butL t b hd
theorem tabs_butI {T : List (Addr × Str)} {H H' : Hp} {s C dx : Addr} {fs : List (Str × V)} (t : Tabs T H) (b : But s H H') (hi : H s = some (.ins C dx fs)) : Tabs T H' := tabs_but t b hi (fun ps z => by cases z) fun c q z => codeO_ins z.symm
section
variable {H H' : Hp}
theorem ExtN.tk (e : ExtN H H') : TupKeep H H' := fun _ _ h => e _ _ h fun ps z => by cases z
theorem ExtN.lst (e : ExtN H H') {b : Addr} {xs : List V} (h : H b = some (.lst xs)) : H' b = some (.lst xs) := e _ _ h fun ps z => by cases z
theorem ExtN.ins (e : ExtN H H') {b C dx : Addr} {fs : List (Str × V)} (h : H b = some (.ins C dx fs)) : H' b = some (.ins C dx fs) := e _ _ h fun ps z => by cases z
theorem ExtN.dT (e : ExtN H H') {b : Addr} {kvs : List (List L2.Key × V)} (h : H b = some (.dT kvs)) : H' b = some (.dT kvs) := e _ _ h fun ps z => by cases z
theorem DAt.extN {d : Addr} (D : DAt H d) (e : ExtN H H') : DAt H' d := by
  obtain ⟨a, b, c, h1, h2, h3⟩ := D
  exact ⟨a, b, c, h1, h2, ExtN.lst e h3⟩
theorem NetAt.extN {C : Addr} {x : Addr} {p h : Nat} {os : List Od} {t : Addr} {F : List Addr} (N : NetAt C H x p h os t F) (e : ExtN H H') : NetAt C H' x p h os t F := by
  obtain ⟨dx, fl, as, rfl, h1, h2, h3, h4, h5⟩ := N
  exact ⟨dx, fl, as, rfl, ExtN.ins e h1, h2.keep (ExtN.tk e), ExtN.lst e h3, h4, fun i a hi => ExtN.lst e (h5 i a hi)⟩
theorem tabs_same {T : List (Addr × Str)} (t : Tabs T H) (s : Same H H') : Tabs T H' := LamX.Tabs.ext t fun b o e => s b o e
end
end
abbrev s_l_error_of : Stmt := top 48
abbrev N_l_error_of : List Str := ["_law_call", "e", "_law_kinds", "_law_names", "_law_name"]
abbrev P_l_error_of : List Str := ["_law_call"]
theorem sc_l_error_of : FnScope N_l_error_of P_l_error_of (defScope s_l_error_of) := ⟨rfl, rfl, rfl, by decide +kernel, rfl, by decide +kernel, by decide +kernel⟩
/-! ### the law's helper: which error a call raises -/
def eNames : List Str := ["day", "house", "number", "limit", "order", "many", "long", "result", "contradiction", "name", "unknown", "net", "text", "code", "operation"]
def eName (i : Nat) : Str := eNames.getD i "day"
/-- the classes of errors, by the names that the law's helper asks for -/
structure ErrM (mg : Str → Option Value) (CP : Addr) (c : Nat → Addr) : Prop where
  gp : mg "PostError" = some (.ref CP)
  g0 : mg "InvalidDay" = some (.ref (c 0))
  g1 : mg "UnknownHouse" = some (.ref (c 1))
  g2 : mg "UnknownOrder" = some (.ref (c 2))
  g3 : mg "InvalidLimit" = some (.ref (c 3))
  g4 : mg "InvalidOrder" = some (.ref (c 4))
  g5 : mg "TooManyOrders" = some (.ref (c 5))
  g6 : mg "TooLong" = some (.ref (c 6))
  g7 : mg "InvalidResult" = some (.ref (c 7))
  g8 : mg "Contradiction" = some (.ref (c 8))
  g9 : mg "InvalidName" = some (.ref (c 9))
  g10 : mg "UnknownName" = some (.ref (c 10))
  g11 : mg "InvalidNet" = some (.ref (c 11))
  g12 : mg "TextFault" = some (.ref (c 12))
  g13 : mg "InvalidCode" = some (.ref (c 13))
  g14 : mg "InvalidOperation" = some (.ref (c 14))
  gv : mg "ValueError" = none
/-- D is the i-th of these classes -/
structure Err15 (K : PySem.W.Frag) (CP : Addr) (c : Nat → Addr) (D : Addr) (i : Nat) : Prop where
  lt : i < 15
  cl : ExcC K D
  ex : PySem.W.exmOne K (.ref D) (.ref CP) = some true
  is : ∀ j, j < 15 → PySem.W.kitOne K (.ref D) (.ref (c j)) = some (decide (j = i))
  ve : PySem.W.kitOne K (.ref D) (.type "ValueError") = some true
def kindsL (i : Nat) : List V := (List.range 15).map fun j => V.bl (decide (j = i))
theorem kinds_count (i : Nat) (h : i < 15) : ((List.range 15).map fun j => PyData.bool (decide (j = i))).countP (fun z => PyData.eqv z (.bool true)) = 1 := by
  rw [List.countP_map]
  have e : ((fun z => PyData.eqv z (.bool true)) ∘ fun j => PyData.bool (decide (j = i))) = fun j => decide (j = i) := by
    funext j
    show PyData.eqv (.bool (decide (j = i))) (.bool true) = decide (j = i)
    cases decide (j = i) <;> simp [PyData.eqv]
  rw [e]
  have : ∀ i, i < 15 → (List.range 15).countP (fun j => decide (j = i)) = 1 := by decide +kernel
  exact this i h
section
variable {K : PySem.W.Frag} {H : Hp}
theorem kinds_dp (i : Nat) : DpAll K H (kindsL i) ((List.range 15).map fun j => PyData.bool (decide (j = i))) := by
  unfold kindsL
  generalize List.range 15 = l
  induction l with
  | nil => exact .nil
  | cons j r ih => exact .cons (.bl _) ih
end
theorem kinds_plain (i : Nat) : PyData.plainAll ((List.range 15).map fun j => PyData.bool (decide (j = i))) = true := by
  generalize List.range 15 = l
  induction l with
  | nil => rfl
  | cons j r ih => simp [PyData.plainAll, PyData.plain, ih]
theorem kinds_at {i j : Nat} (h : j < 15) : (kindsL i)[j]? = some (V.bl (decide (j = i))) := by
  unfold kindsL
  rw [List.getElem?_map, List.getElem?_range h]
  rfl
theorem kinds_flat (i : Nat) : (kindsL i).all flatV = true := by
  rw [List.all_eq_true]
  intro v hv
  obtain ⟨j, _, rfl⟩ := List.mem_map.mp hv
  rfl
theorem eName_plain : ∀ i, i < 11 → eName i ≠ "net" ∧ eName i ≠ "text" ∧ eName i ≠ "code" ∧ eName i ≠ "operation" := by decide +kernel
theorem eName_at {i : Nat} (h : i < 15) : (eNames.map V.str)[i]? = some (V.str (eName i)) := by
  have hl : i < eNames.length := h
  unfold eName
  rw [List.getElem?_map, List.getElem?_eq_getElem hl]
  simp [List.getD, List.getElem?_eq_getElem hl]
section
variable {X : Cx}
theorem pe_never {e : Expr} : PE X e (fun _ _ _ => False) := ⟨fun _ _ _ _ _ _ h => h.elim⟩
end
section
open LamX
variable {X : Cx} {C : Addr}
/-- what the helper makes of a call that raises one of the plain errors, or none -/
def TTerr (K : PySem.W.Frag) (CP : Addr) (c : Nat → Addr) : (XK → Hp → VK → Prop) → Hp → VK → Prop := fun tl H Q =>
  tl (fun cls d H' => ∃ D i, cls = .ref D ∧ d = none ∧ Err15 K CP c D i ∧ i < 11 ∧ ∀ u H'', Same H' H'' → H'' u = some (.tup [.str (eName i), .int 0]) → Q (.ref u) H'') H fun _ H' => Q .non H'
set_option maxHeartbeats 0 in
theorem err_core {g CP : Addr} {cdg : Value} {c : Nat → Addr} {k : Nat} (M : ErrM X.mg CP c) (B : Blt X.mg) (hr : Room (k + 2) X.A) {f : Addr} {s : Shared} {H : Hp} {Q : VK} {tl : XK → Hp → VK → Prop}
    (act : ∀ (W : WX) (pn : List (Addr × Obj)) (xe : Value → Shared → Prop) (E : XK) (p1 p2 : Pos), L2.Takes ((cxOf C8.CX0 X.prog X.w X.K X.mg X.base N_l_error_of "_law_error_of" (defScope s_l_error_of) g cdg X.A X.stack s H C8.E0).tr pn xe) W → (∀ cls d σ' H', E cls d H' → W cls d σ' H') →
      PE ((cxOf C8.CX0 X.prog X.w X.K X.mg X.base N_l_error_of "_law_error_of" (defScope s_l_error_of) g cdg X.A X.stack s H C8.E0).tr pn xe) (.Call (.Name "_law_call" p1) [] [] p2) (fun σZ HZ Q => σZ[0]? = some (some (.ref f)) ∧ tl E HZ Q)) (h : TTerr X.K CP c tl H Q) :
    ∃ t, PSs (cxOf C8.CX0 X.prog X.w X.K X.mg X.base N_l_error_of "_law_error_of" (defScope s_l_error_of) g cdg X.A X.stack s H C8.E0).nox (defBody s_l_error_of) t ∧ t { nx := fun _ H' => Q .non H', rt := Q } (L2.start N_l_error_of [.ref f]) H := by
  have hu : (X.A.deeper (PyProof.Rows.envOfC "_law_error_of" (defScope s_l_error_of) s.heap.objs.size g cdg)).units + 65 < cLine := by
    have := (hr.deeper (PyProof.Rows.envOfC "_law_error_of" (defScope s_l_error_of) s.heap.objs.size g cdg)).un
    omega
  refine ⟨_, pss_cons (ps_try_as (X := (cxOf C8.CX0 X.prog X.w X.K X.mg X.base N_l_error_of "_law_error_of" (defScope s_l_error_of) g cdg X.A X.stack s H C8.E0).nox) (c := .ref CP) (i := 1)
      (tb := fun W D σ H => ∃ Ech : XK, (∀ cls d σ' H', Ech cls d H' → W cls d σ' H') ∧ σ[0]? = some (some (.ref f)) ∧ tl Ech H (fun _ H' => D.nx σ H'))
      (ts := fun a cls d Dn σ H => ∃ D i, cls = .ref D ∧ d = none ∧ Err15 X.K CP c D i ∧ i < 11 ∧ (∃ σ0 : L2.St, σ = σ0.set 1 (some (.ref a))) ∧ ∀ u H'', Same H H'' → H'' u = some (.tup [.str (eName i), .int 0]) → Dn.rt (.ref u) H'')
      rfl rfl sc_l_error_of.nd rfl rfl ⟨rfl, by decide, .inl M.gp⟩ L2.takes0 (fun W pn xe tk _ => ?_) (fun a oe cls d pn hz hf => ?_)) (pss_one (ps_ret pe_non)), ?_⟩
  · refine ⟨fun pins s' σ H' D I h' => ?_⟩
    obtain ⟨Ech, hW, h1, h3⟩ := h'
    refine PSs.run (pss_one (ps_expr (act W pn xe Ech _ _ tk hW))) pins s' σ H' D I ⟨h1, h3⟩
  · refine ⟨fun pins s' σ H' Dn I' h' => ?_⟩
    obtain ⟨D, i, rfl, rfl, e15, hi, ⟨σ0, rfl⟩, hq⟩ := h'
    have hlen : (σ0.set 1 (some (V.ref a))).length = 5 := I'.len
    rw [List.length_set] at hlen
    obtain ⟨y0, y1, y2, y3, y4, rfl⟩ : ∃ y0 y1 y2 y3 y4, σ0 = [y0, y1, y2, y3, y4] := by
      match σ0, hlen with
      | [y0, y1, y2, y3, y4], _ => exact ⟨_, _, _, _, _, rfl⟩
    let Z : Cx := (cxOf C8.CX0 X.prog X.w X.K X.mg X.base N_l_error_of "_law_error_of" (defScope s_l_error_of) g cdg X.A X.stack s H C8.E0).nox
    have iE := call_isE (X := Z) (a := a) (D := D) (oe := oe) (pn := pn) e15.cl hz hf
    refine PSs.run (X := Z.suite a ((a, oe) :: pn)) (pss_cons (ps_set (i := 2) sc_l_error_of.nd rfl (.inl rfl) (pe_lst (pa_cons (pe_callB iE (by rfl) B.isi PyProof.Rows.boot_isinstance (pa_cons (pv 1) (pa_cons (pe_glob (v := .ref (c 0)) (by rfl) M.g0 rfl) pa_nil))) (pa_cons (pe_callB iE (by rfl) B.isi PyProof.Rows.boot_isinstance (pa_cons (pv 1) (pa_cons (pe_glob (v := .ref (c 1)) (by rfl) M.g1 rfl) pa_nil))) (pa_cons (pe_callB iE (by rfl) B.isi PyProof.Rows.boot_isinstance (pa_cons (pv 1) (pa_cons (pe_glob (v := .ref (c 2)) (by rfl) M.g2 rfl) pa_nil))) pa_nil)))))
        (pss_cons (ps_set (i := 2) sc_l_error_of.nd rfl (.inl rfl) (pe_op op_cat (pv 2) (pe_lst (pa_cons (pe_callB iE (by rfl) B.isi PyProof.Rows.boot_isinstance (pa_cons (pv 1) (pa_cons (pe_glob (v := .ref (c 3)) (by rfl) M.g3 rfl) pa_nil))) (pa_cons (pe_callB iE (by rfl) B.isi PyProof.Rows.boot_isinstance (pa_cons (pv 1) (pa_cons (pe_glob (v := .ref (c 4)) (by rfl) M.g4 rfl) pa_nil))) (pa_cons (pe_callB iE (by rfl) B.isi PyProof.Rows.boot_isinstance (pa_cons (pv 1) (pa_cons (pe_glob (v := .ref (c 5)) (by rfl) M.g5 rfl) pa_nil))) pa_nil))))))
        (pss_cons (ps_set (i := 2) sc_l_error_of.nd rfl (.inl rfl) (pe_op op_cat (pv 2) (pe_lst (pa_cons (pe_callB iE (by rfl) B.isi PyProof.Rows.boot_isinstance (pa_cons (pv 1) (pa_cons (pe_glob (v := .ref (c 6)) (by rfl) M.g6 rfl) pa_nil))) (pa_cons (pe_callB iE (by rfl) B.isi PyProof.Rows.boot_isinstance (pa_cons (pv 1) (pa_cons (pe_glob (v := .ref (c 7)) (by rfl) M.g7 rfl) pa_nil))) (pa_cons (pe_callB iE (by rfl) B.isi PyProof.Rows.boot_isinstance (pa_cons (pv 1) (pa_cons (pe_glob (v := .ref (c 8)) (by rfl) M.g8 rfl) pa_nil))) pa_nil))))))
        (pss_cons (ps_set (i := 2) sc_l_error_of.nd rfl (.inl rfl) (pe_op op_cat (pv 2) (pe_lst (pa_cons (pe_callB iE (by rfl) B.isi PyProof.Rows.boot_isinstance (pa_cons (pv 1) (pa_cons (pe_glob (v := .ref (c 9)) (by rfl) M.g9 rfl) pa_nil))) (pa_cons (pe_callB iE (by rfl) B.isi PyProof.Rows.boot_isinstance (pa_cons (pv 1) (pa_cons (pe_glob (v := .ref (c 10)) (by rfl) M.g10 rfl) pa_nil))) (pa_cons (pe_callB iE (by rfl) B.isi PyProof.Rows.boot_isinstance (pa_cons (pv 1) (pa_cons (pe_glob (v := .ref (c 11)) (by rfl) M.g11 rfl) pa_nil))) pa_nil))))))
        (pss_cons (ps_set (i := 2) sc_l_error_of.nd rfl (.inl rfl) (pe_op op_cat (pv 2) (pe_lst (pa_cons (pe_callB iE (by rfl) B.isi PyProof.Rows.boot_isinstance (pa_cons (pv 1) (pa_cons (pe_glob (v := .ref (c 12)) (by rfl) M.g12 rfl) pa_nil))) (pa_cons (pe_callB iE (by rfl) B.isi PyProof.Rows.boot_isinstance (pa_cons (pv 1) (pa_cons (pe_glob (v := .ref (c 13)) (by rfl) M.g13 rfl) pa_nil))) (pa_cons (pe_callB iE (by rfl) B.isi PyProof.Rows.boot_isinstance (pa_cons (pv 1) (pa_cons (pe_glob (v := .ref (c 14)) (by rfl) M.g14 rfl) pa_nil))) pa_nil))))))
        (pss_cons (ps_if (PW.pt (pw_or (pt_cmpR op_ne (pe_bm PySem.F.plainAttrs_list PySem.F.slot_list_count PySem.F.type_list_count (mt_countD hu) (pv 2) (pa_cons pe_bl pa_nil)) pe_int (nomark _)) (pw_or1 (pt_not (pt_val (pe_callB iE (by rfl) B.isi PyProof.Rows.boot_isinstance (pa_cons (pv 1) (pa_cons (pe_bltn (v := .ty "ValueError") (by rfl) M.gv (by decide +kernel) rfl) pa_nil)))))))) (pss_one (ps_ret (pe_tup (pa_cons pe_str (pa_cons pe_int pa_nil))))) pss_nil)
        (pss_cons (ps_set (i := 3) sc_l_error_of.nd rfl (.inl rfl) (pe_lst (pa_cons pe_str (pa_cons pe_str (pa_cons pe_str (pa_cons pe_str (pa_cons pe_str (pa_cons pe_str (pa_cons pe_str (pa_cons pe_str (pa_cons pe_str (pa_cons pe_str pa_nil))))))))))))
        (pss_cons (ps_set (i := 4) sc_l_error_of.nd rfl (.inl rfl) (pe_ix ix_list (pe_op op_cat (pv 3) (pe_lst (pa_cons pe_str (pa_cons pe_str (pa_cons pe_str (pa_cons pe_str (pa_cons pe_str pa_nil))))))) (pe_bm PySem.F.plainAttrs_list PySem.F.slot_list_index PySem.F.type_list_index mt_index (pv 2) (pa_cons pe_bl pa_nil)) (fun _ _ => rfl)))
        (pss_cons (ps_if (pt_cmpR op_eq (pv 4) pe_str (nomark _)) (pss_one (ps_ret pe_never)) pss_nil)
        (pss_cons (ps_if (pt_cmpR op_eq (pv 4) pe_str (nomark _)) (pss_one (ps_ret pe_never)) pss_nil)
        (pss_one (ps_ret (pe_tup (pa_cons (pv 4) (pa_cons (pe_ifExp (pt_cmpR op_in_seq (pv 4) (pe_lst (pa_cons pe_str (pa_cons pe_str pa_nil))) rfl) pe_never pe_int) pa_nil))))))))))))))) pins s' _ H' Dn I' ?_
    refine ⟨_, rfl, .ref (c 0), .ref (c 0), _, rfl, (fun _ r => r), e15.is 0 (by decide), _, rfl, .ref (c 1), .ref (c 1), _, rfl, (fun _ r => r), e15.is 1 (by decide), _, rfl, .ref (c 2), .ref (c 2), _, rfl, (fun _ r => r), e15.is 2 (by decide), (by show 3 ≤ sizeLine; decide), fun l0 n0 => ?_⟩
    have hk0 : (upd H' l0 (.lst [.bl (decide (0 = i)), .bl (decide (1 = i)), .bl (decide (2 = i))])) l0 = some (.lst [.bl (decide (0 = i)), .bl (decide (1 = i)), .bl (decide (2 = i))]) := upd_same
    have sm0 := same_upd (o := HO.lst [.bl (decide (0 = i)), .bl (decide (1 = i)), .bl (decide (2 = i))]) n0
    generalize (upd H' l0 (.lst [.bl (decide (0 = i)), .bl (decide (1 = i)), .bl (decide (2 = i))])) = H0 at hk0 sm0
    refine ⟨_, rfl, _, rfl, .ref (c 3), .ref (c 3), _, rfl, (fun _ r => r), e15.is 3 (by decide), _, rfl, .ref (c 4), .ref (c 4), _, rfl, (fun _ r => r), e15.is 4 (by decide), _, rfl, .ref (c 5), .ref (c 5), _, rfl, (fun _ r => r), e15.is 5 (by decide), (by show 3 ≤ sizeLine; decide), fun b1 nb1 => ?_⟩
    obtain ⟨L1, eL1⟩ : ∃ L : List V, L = [.bl (decide (0 = i)), .bl (decide (1 = i)), .bl (decide (2 = i))] ++ [.bl (decide (3 = i)), .bl (decide (4 = i)), .bl (decide (5 = i))] := ⟨_, rfl⟩
    have sb1 := same_upd (o := HO.lst [.bl (decide (3 = i)), .bl (decide (4 = i)), .bl (decide (5 = i))]) nb1
    refine ⟨l0, b1, _, _, rfl, rfl, sb1 _ _ hk0, upd_same, (by show 3 + 3 ≤ sizeLine; decide), fun l1 n1 => ?_⟩
    rw [← eL1]
    have sm1 := sm0.trans (sb1.trans (same_upd (o := HO.lst L1) n1))
    have hk1 : (upd (upd H0 b1 (.lst [.bl (decide (3 = i)), .bl (decide (4 = i)), .bl (decide (5 = i))])) l1 (.lst L1)) l1 = some (.lst L1) := upd_same
    generalize (upd (upd H0 b1 (.lst [.bl (decide (3 = i)), .bl (decide (4 = i)), .bl (decide (5 = i))])) l1 (.lst L1)) = H1 at hk1 sm1
    refine ⟨_, rfl, _, rfl, .ref (c 6), .ref (c 6), _, rfl, (fun _ r => r), e15.is 6 (by decide), _, rfl, .ref (c 7), .ref (c 7), _, rfl, (fun _ r => r), e15.is 7 (by decide), _, rfl, .ref (c 8), .ref (c 8), _, rfl, (fun _ r => r), e15.is 8 (by decide), (by show 3 ≤ sizeLine; decide), fun b2 nb2 => ?_⟩
    obtain ⟨L2, eL2⟩ : ∃ L : List V, L = L1 ++ [.bl (decide (6 = i)), .bl (decide (7 = i)), .bl (decide (8 = i))] := ⟨_, rfl⟩
    have sb2 := same_upd (o := HO.lst [.bl (decide (6 = i)), .bl (decide (7 = i)), .bl (decide (8 = i))]) nb2
    refine ⟨l1, b2, _, _, rfl, rfl, sb2 _ _ hk1, upd_same, (by rw [eL1]; show 6 + 3 ≤ sizeLine; decide), fun l2 n2 => ?_⟩
    rw [← eL2]
    have sm2 := sm1.trans (sb2.trans (same_upd (o := HO.lst L2) n2))
    have hk2 : (upd (upd H1 b2 (.lst [.bl (decide (6 = i)), .bl (decide (7 = i)), .bl (decide (8 = i))])) l2 (.lst L2)) l2 = some (.lst L2) := upd_same
    generalize (upd (upd H1 b2 (.lst [.bl (decide (6 = i)), .bl (decide (7 = i)), .bl (decide (8 = i))])) l2 (.lst L2)) = H2 at hk2 sm2
    refine ⟨_, rfl, _, rfl, .ref (c 9), .ref (c 9), _, rfl, (fun _ r => r), e15.is 9 (by decide), _, rfl, .ref (c 10), .ref (c 10), _, rfl, (fun _ r => r), e15.is 10 (by decide), _, rfl, .ref (c 11), .ref (c 11), _, rfl, (fun _ r => r), e15.is 11 (by decide), (by show 3 ≤ sizeLine; decide), fun b3 nb3 => ?_⟩
    obtain ⟨L3, eL3⟩ : ∃ L : List V, L = L2 ++ [.bl (decide (9 = i)), .bl (decide (10 = i)), .bl (decide (11 = i))] := ⟨_, rfl⟩
    have sb3 := same_upd (o := HO.lst [.bl (decide (9 = i)), .bl (decide (10 = i)), .bl (decide (11 = i))]) nb3
    refine ⟨l2, b3, _, _, rfl, rfl, sb3 _ _ hk2, upd_same, (by rw [eL2, eL1]; show 9 + 3 ≤ sizeLine; decide), fun l3 n3 => ?_⟩
    rw [← eL3]
    have sm3 := sm2.trans (sb3.trans (same_upd (o := HO.lst L3) n3))
    have hk3 : (upd (upd H2 b3 (.lst [.bl (decide (9 = i)), .bl (decide (10 = i)), .bl (decide (11 = i))])) l3 (.lst L3)) l3 = some (.lst L3) := upd_same
    generalize (upd (upd H2 b3 (.lst [.bl (decide (9 = i)), .bl (decide (10 = i)), .bl (decide (11 = i))])) l3 (.lst L3)) = H3 at hk3 sm3
    refine ⟨_, rfl, _, rfl, .ref (c 12), .ref (c 12), _, rfl, (fun _ r => r), e15.is 12 (by decide), _, rfl, .ref (c 13), .ref (c 13), _, rfl, (fun _ r => r), e15.is 13 (by decide), _, rfl, .ref (c 14), .ref (c 14), _, rfl, (fun _ r => r), e15.is 14 (by decide), (by show 3 ≤ sizeLine; decide), fun b4 nb4 => ?_⟩
    obtain ⟨L4, eL4⟩ : ∃ L : List V, L = L3 ++ [.bl (decide (12 = i)), .bl (decide (13 = i)), .bl (decide (14 = i))] := ⟨_, rfl⟩
    have sb4 := same_upd (o := HO.lst [.bl (decide (12 = i)), .bl (decide (13 = i)), .bl (decide (14 = i))]) nb4
    refine ⟨l3, b4, _, _, rfl, rfl, sb4 _ _ hk3, upd_same, (by rw [eL3, eL2, eL1]; show 12 + 3 ≤ sizeLine; decide), fun l4 n4 => ?_⟩
    rw [← eL4]
    have sm4 := sm3.trans (sb4.trans (same_upd (o := HO.lst L4) n4))
    have hk4 : (upd (upd H3 b4 (.lst [.bl (decide (12 = i)), .bl (decide (13 = i)), .bl (decide (14 = i))])) l4 (.lst L4)) l4 = some (.lst L4) := upd_same
    generalize (upd (upd H3 b4 (.lst [.bl (decide (12 = i)), .bl (decide (13 = i)), .bl (decide (14 = i))])) l4 (.lst L4)) = H4 at hk4 sm4
    have hk : H4 l4 = some (.lst (kindsL i)) := by rw [hk4, eL4, eL3, eL2, eL1]; rfl
    clear hk4 hk3 hk2 hk1 hk0
    refine ⟨_, rfl, .inl ⟨rfl, _, SqL.of hk⟩, l4, _, .bl true, .bool true, _, rfl, rfl, SqL.of hk, kinds_dp i, .bl true, kinds_plain i, rfl, by decide, ?_⟩
    rw [kinds_count i e15.lt]
    refine ⟨rfl, _, rfl, iteF ⟨_, rfl, .ty "ValueError", .type "ValueError", _, rfl, (fun _ r => r), e15.ve, _, rfl, iteF ?_⟩⟩
    refine ⟨(by show 10 ≤ sizeLine; decide), fun m1 nm1 => ?_⟩
    have st1 := same_upd (o := HO.lst ((eNames.take 10).map V.str)) nm1
    refine ⟨_, rfl, (by show 5 ≤ sizeLine; decide), fun m2 nm2 => ?_⟩
    have st2 := same_upd (o := HO.lst ((eNames.drop 10).map V.str)) nm2
    refine ⟨m1, m2, _, _, rfl, rfl, st2 _ _ upd_same, upd_same, (by show 10 + 5 ≤ sizeLine; decide), fun m3 nm3 => ?_⟩
    have st3 := same_upd (o := HO.lst (eNames.map V.str)) nm3
    have hkm := (st1.trans (st2.trans st3)) _ _ hk
    obtain ⟨p1, p2, p3, p4⟩ := eName_plain i hi
    refine ⟨_, rfl, .inl ⟨rfl, _, SqL.of hkm⟩, l4, _, .bl true, i, .bl (decide (i = i)), rfl, rfl, SqL.of hkm, rfl, kinds_flat i, kinds_at e15.lt, by simp [eqV], fun m z hm hz2 => ?_, m3, eNames.map V.str, (i : Nat), _, rfl, rfl, SqL.of upd_same, atI_nat (eName_at e15.lt), ?_⟩
    · rw [kinds_at (by omega)] at hz2
      obtain rfl := Option.some.inj hz2
      rw [decide_eq_false (by omega)]
      rfl
    refine ⟨_, rfl, rfl, _, rfl, ?_⟩
    rw [decide_eq_false fun z => p1 (V.str.inj z)]
    refine iteF ⟨_, rfl, rfl, _, rfl, ?_⟩
    rw [decide_eq_false fun z => p2 (V.str.inj z)]
    refine iteF ⟨_, rfl, _, rfl, (by show 2 ≤ sizeLine; decide), fun m4 nm4 => ⟨m4, _, rfl, .inl (SqL.of upd_same), rfl, rfl, _, rfl, ?_⟩⟩
    have ev : inV (.str (eName i)) [.str "code", .str "operation"] = false := by
      unfold inV
      rw [List.any_cons, List.any_cons, List.any_nil]
      show ((("code" : Str) == eName i) || ((("operation" : Str) == eName i) || false)) = false
      rw [beq_eq_false_iff_ne.mpr (Ne.symm p3), beq_eq_false_iff_ne.mpr (Ne.symm p4)]
      rfl
    rw [ev]
    have st4 := same_upd (o := HO.lst [.str "code", .str "operation"]) nm4
    exact iteF ⟨(by show 2 ≤ sizeLine; decide), fun u nu => hq u _ (sm4.trans (st1.trans (st2.trans (st3.trans (st4.trans (same_upd nu)))))) upd_same⟩
  · refine ⟨fun cls d H' => ∃ D i, cls = .ref D ∧ d = none ∧ Err15 X.K CP c D i ∧ i < 11 ∧ ∀ u H'', Same H' H'' → H'' u = some (.tup [.str (eName i), .int 0]) → Q (.ref u) H'', fun cls d σ' H' hx => ?_, rfl, h⟩
    obtain ⟨D, i, rfl, rfl, e15, hi, hq⟩ := hx
    exact ⟨true, e15.ex, fun _ a _ => ⟨D, i, rfl, rfl, e15, hi, ⟨_, rfl⟩, hq⟩, fun z => by cases z⟩
theorem err_gives {q : Str} {g CP : Addr} {cdg : Value} {c : Nat → Addr} {k : Nat} (M : ErrM X.mg CP c) (B : Blt X.mg) (hr : Room (k + 2) X.A) :
    GivesTo X N_l_error_of "_law_error_of" (defScope s_l_error_of) g cdg (defBody s_l_error_of) "_law_call" q (TTerr X.K CP c) := by
  intro f c' s H Q tl act hc h
  exact err_core M B hr (tl := fun E HZ Q' => HZ c' = some (CodeO c' q) ∧ tl E HZ Q') (fun W pn xe E p1 p2 tk hW => act W pn xe E p1 p2 tk hW) ⟨hc, h⟩
end
/-! ### what the end tells of the error classes -/
section
variable {K : PySem.W.Frag}
theorem kit_mk {t c : Addr} {b : Bool} (h1 : PySem.W.isClsIn K c = true) (h2 : PySem.W.typeIn K (.ref c) = some (.type "type")) (h3 : PySem.W.subIn K (.ref t) (.ref c) = some b) (h4 : b = true ∨ t ≠ c) : PySem.W.kitOne K (.ref t) (.ref c) = some b := by
  unfold PySem.W.kitOne
  by_cases e : (Value.ref t == Value.ref c) = true
  · rw [if_pos e]
    rcases h4 with z | z
    · rw [z]
    · exact absurd (by simpa using e) z
  · rw [if_neg e]
    have e2 : ((PySem.W.clsIn K c).isSome && PySem.W.typeIn K (.ref c) == some (.type "type")) = true := by
      have h1' : (PySem.W.clsIn K c).isSome = true := h1
      rw [h1', h2] <;> rfl
    show (if ((PySem.W.clsIn K c).isSome && PySem.W.typeIn K (.ref c) == some (.type "type")) = true then PySem.W.subIn K (.ref t) (.ref c) else none) = some b
    rw [if_pos e2]
    exact h3
theorem kit_ve {t : Addr} (h : PySem.W.subIn K (.ref t) (.type "ValueError") = some true) : PySem.W.kitOne K (.ref t) (.type "ValueError") = some true := by
  unfold PySem.W.kitOne
  rw [if_neg (by simp)]
  show (if PySem.W.kitMeta "ValueError" = true then PySem.W.subIn K (.ref t) (.type "ValueError") else none) = some true
  rw [if_pos (by decide +kernel)]
  exact h
theorem exm_mk {t c : Addr} (h0 : PySem.W.subIn K (.ref c) (.type "BaseException") = some true) (h1 : PySem.W.isClsIn K c = true) (h2 : PySem.W.typeIn K (.ref c) = some (.type "type")) (h3 : PySem.W.subIn K (.ref t) (.ref c) = some true) : PySem.W.exmOne K (.ref t) (.ref c) = some true := by
  have e1 : (PySem.W.subIn K (.ref c) (.type "BaseException") == some true) = true := by rw [h0] <;> rfl
  have e2 : ((PySem.W.clsIn K c).isSome && PySem.W.typeIn K (.ref c) == some (.type "type")) = true := by
    have h1' : (PySem.W.clsIn K c).isSome = true := h1
    rw [h1', h2] <;> rfl
  show (if (PySem.W.subIn K (.ref c) (.type "BaseException") == some true) = true then (if ((PySem.W.clsIn K c).isSome && PySem.W.typeIn K (.ref c) == some (.type "type")) = true then PySem.W.subIn K (.ref t) (.ref c) else none) else none) = some true
  rw [if_pos e1, if_pos e2]
  exact h3
theorem err15_mk {CP D : Addr} {c : Nat → Addr} {i : Nat} (lt : i < 15) (cl : ExcC K D) (ex : PySem.W.exmOne K (.ref D) (.ref CP) = some true) (ve : PySem.W.subIn K (.ref D) (.type "ValueError") = some true) (self : c i = D)
    (h : ∀ j, j < 15 → PySem.W.isClsIn K (c j) = true ∧ PySem.W.typeIn K (.ref (c j)) = some (.type "type") ∧ PySem.W.subIn K (.ref D) (.ref (c j)) = some (decide (j = i))) : Err15 K CP c D i := by
  refine ⟨lt, cl, ex, fun j hj => ?_, kit_ve ve⟩
  obtain ⟨h1, h2, h3⟩ := h j hj
  refine kit_mk h1 h2 h3 ?_
  by_cases e : j = i
  · exact .inl (decide_eq_true e)
  · refine .inr fun z => ?_
    obtain ⟨_, _, g⟩ := h i lt
    rw [self, decide_eq_true rfl] at g
    rw [← z, decide_eq_false e, g] at h3
    cases h3
end
/-! ### the law's helper: every kind of error -/
section
open LamX
variable {X : Cx} {C : Addr}
/-- isinstance of the error that a suite holds, its fields known or none -/
def rIsEd (K : PySem.W.Frag) (D a : Addr) (d : Option Addr) : List V → Hp → VK → Prop := fun xs H Q => ∃ (c : V) (cv : Value) (b : Bool), xs = [.ref a, c] ∧ (∀ u, L2.RelV c u → u = cv) ∧ PySem.W.kitOne K (.ref D) cv = some b ∧ (∀ dd, d = some dd → ∃ fs, H dd = some (.xd fs)) ∧ Q (.bl b) H
theorem call_isEd {X : Cx} {a D : Addr} {oe : Obj} {d : Option Addr} {pn : List (Addr × Obj)} (C : ExcC X.K D) (hz : Zc (.ref D) d oe) (hf : ∃ vs, oe.data = .fields vs) : CallR (X.suite a ((a, oe) :: pn)) (.builtin "isinstance") (rIsEd X.K D a d) := by
  intro pins s σ H xs us Q I r h
  obtain ⟨c, cv, b, rfl, hcv, e, hd, q⟩ := h
  cases r with
  | cons rx rr =>
    cases rr with
    | cons rt rr =>
      cases rr
      cases rx
      have ec := hcv _ rt
      subst ec
      obtain ⟨hget, _⟩ := I.pin (a, oe) (List.mem_append.mpr (.inl List.mem_cons_self))
      obtain ⟨vs, hv⟩ := hf
      obtain ⟨od, J⟩ : ∃ od, PySem.W.InstAt s.heap a oe D od := by
        obtain ⟨oc, odx, oda, osl⟩ := oe
        obtain ⟨h1, h2⟩ := hz
        dsimp only at h1 h2 hv
        subst h1 h2 hv
        cases odx with
        | none => exact ⟨none, hget, rfl, rfl, trivial⟩
        | some dd =>
          obtain ⟨fs, hx⟩ := hd dd rfl
          obtain ⟨o, ho⟩ : ∃ o, s.heap.get? dd = some o := by
            obtain ⟨mA, ⟨o, _, _, e', _⟩, _⟩ := I.hok dd _ hx
            exact ⟨o, e'⟩
          exact ⟨some o, hget, rfl, rfl, ho⟩
      exact PySem.W.kia_one (PySem.W.kitx_exc (by obtain ⟨cd, hc, _⟩ := PySem.W.any_some C.hd; rw [hc]; rfl) C.hg C.hk C.hs C.ha C.hn C.ht C.hm) I.kIn J e (fun z => nomatch z) fun tk => ⟨.bl b, H, I.kept (t' := tk) fun _ _ z => z, rfl, q⟩
/-- what the helper's answer is for an error that flies -/
def ErrE (K : PySem.W.Frag) (CP : Addr) (c : Nat → Addr) (cls : Value) (d : Option Addr) (H' : Hp) (Q : VK) : Prop := ∃ D i, cls = .ref D ∧ Err15 K CP c D i ∧
  ((d = none ∧ i < 11 ∧ ∀ u H'', Same H' H'' → H'' u = some (.tup [.str (eName i), .int 0]) → Q (.ref u) H'') ∨
   (i = 11 ∧ XfC K D ∧ PySem.W.findIn K (.ref D) "part" = some none ∧ PySem.W.findIn K (.ref D) "index" = some none ∧ ∃ (dd : Addr) (part : Str) (n : Nat), d = some dd ∧ H' dd = some (.xd [("index", .int n), ("part", .str part)]) ∧ ∀ u v H'', Same H' H'' → H'' v = some (.tup [.str part, .int n]) → H'' u = some (.tup [.str "net", .ref v]) → Q (.ref u) H'') ∨
   (i = 12 ∧ XfC K D ∧ PySem.W.findIn K (.ref D) "line" = some none ∧ ∃ (dd : Addr) (n : Nat), d = some dd ∧ H' dd = some (.xd [("line", .int n)]) ∧ ∀ u H'', Same H' H'' → H'' u = some (.tup [.str "text", .int n]) → Q (.ref u) H'') ∨
   ((i = 13 ∨ i = 14) ∧ XfC K D ∧ PySem.W.findIn K (.ref D) "place" = some none ∧ ∃ (dd : Addr) (n : Nat), d = some dd ∧ H' dd = some (.xd [("place", .int n)]) ∧ ∀ u H'', Same H' H'' → H'' u = some (.tup [.str (eName i), .int n]) → Q (.ref u) H''))
def TTerrE (K : PySem.W.Frag) (CP : Addr) (c : Nat → Addr) : (XK → Hp → VK → Prop) → Hp → VK → Prop := fun tl H Q => tl (fun cls d H' => ErrE K CP c cls d H' Q) H fun _ H' => Q .non H'
set_option maxHeartbeats 0 in
theorem err_coreE {g CP : Addr} {cdg : Value} {c : Nat → Addr} {k : Nat} (M : ErrM X.mg CP c) (B : Blt X.mg) (hr : Room (k + 2) X.A) {f : Addr} {s : Shared} {H : Hp} {Q : VK} {tl : XK → Hp → VK → Prop}
    (act : ∀ (W : WX) (pn : List (Addr × Obj)) (xe : Value → Shared → Prop) (E : XK) (p1 p2 : Pos), L2.Takes ((cxOf C8.CX0 X.prog X.w X.K X.mg X.base N_l_error_of "_law_error_of" (defScope s_l_error_of) g cdg X.A X.stack s H C8.E0).tr pn xe) W → (∀ cls d σ' H', E cls d H' → W cls d σ' H') →
      PE ((cxOf C8.CX0 X.prog X.w X.K X.mg X.base N_l_error_of "_law_error_of" (defScope s_l_error_of) g cdg X.A X.stack s H C8.E0).tr pn xe) (.Call (.Name "_law_call" p1) [] [] p2) (fun σZ HZ Q => σZ[0]? = some (some (.ref f)) ∧ tl E HZ Q)) (h : TTerrE X.K CP c tl H Q) :
    ∃ t, PSs (cxOf C8.CX0 X.prog X.w X.K X.mg X.base N_l_error_of "_law_error_of" (defScope s_l_error_of) g cdg X.A X.stack s H C8.E0).nox (defBody s_l_error_of) t ∧ t { nx := fun _ H' => Q .non H', rt := Q } (L2.start N_l_error_of [.ref f]) H := by
  have hu : (X.A.deeper (PyProof.Rows.envOfC "_law_error_of" (defScope s_l_error_of) s.heap.objs.size g cdg)).units + 65 < cLine := by
    have := (hr.deeper (PyProof.Rows.envOfC "_law_error_of" (defScope s_l_error_of) s.heap.objs.size g cdg)).un
    omega
  refine ⟨_, pss_cons (ps_try_as (X := (cxOf C8.CX0 X.prog X.w X.K X.mg X.base N_l_error_of "_law_error_of" (defScope s_l_error_of) g cdg X.A X.stack s H C8.E0).nox) (c := .ref CP) (i := 1)
      (tb := fun W D σ H => ∃ Ech : XK, (∀ cls d σ' H', Ech cls d H' → W cls d σ' H') ∧ σ[0]? = some (some (.ref f)) ∧ tl Ech H (fun _ H' => D.nx σ H'))
      (ts := fun a cls d Dn σ H => ErrE X.K CP c cls d H Dn.rt ∧ ∃ σ0 : L2.St, σ = σ0.set 1 (some (.ref a)))
      rfl rfl sc_l_error_of.nd rfl rfl ⟨rfl, by decide, .inl M.gp⟩ L2.takes0 (fun W pn xe tk _ => ?_) (fun a oe cls d pn hz hf => ?_)) (pss_one (ps_ret pe_non)), ?_⟩
  · refine ⟨fun pins s' σ H' D I h' => ?_⟩
    obtain ⟨Ech, hW, h1, h3⟩ := h'
    refine PSs.run (pss_one (ps_expr (act W pn xe Ech _ _ tk hW))) pins s' σ H' D I ⟨h1, h3⟩
  · refine ⟨fun pins s' σ H' Dn I' h' => ?_⟩
    obtain ⟨⟨D, i, rfl, e15, hq⟩, σ0, rfl⟩ := h'
    have hlen : (σ0.set 1 (some (V.ref a))).length = 5 := I'.len
    rw [List.length_set] at hlen
    obtain ⟨y0, y1, y2, y3, y4, rfl⟩ : ∃ y0 y1 y2 y3 y4, σ0 = [y0, y1, y2, y3, y4] := by
      match σ0, hlen with
      | [y0, y1, y2, y3, y4], _ => exact ⟨_, _, _, _, _, rfl⟩
    let Z : Cx := (cxOf C8.CX0 X.prog X.w X.K X.mg X.base N_l_error_of "_law_error_of" (defScope s_l_error_of) g cdg X.A X.stack s H C8.E0).nox
    have xfE : ∀ n : Str, ∃ t : TE, (∀ p1 p2, PE (Z.suite a ((a, oe) :: pn)) (.Attribute (.Name "e" p1) n p2) t) ∧ (XfC X.K D → PySem.W.findIn X.K (.ref D) n = some none → t = tXf a (.ref D) d D n (tVar 1)) := fun n => by
      by_cases hx : XfC X.K D ∧ PySem.W.findIn X.K (.ref D) n = some none
      · exact ⟨_, fun p1 p2 => pe_xf hx.1 hx.2 hz hf (pv 1) rfl, fun _ _ => rfl⟩
      · exact ⟨_, fun p1 p2 => pe_never, fun z1 z2 => absurd ⟨z1, z2⟩ hx⟩
    obtain ⟨tp, Pp, ep⟩ := xfE "part"
    obtain ⟨ti, Pi, ei⟩ := xfE "index"
    obtain ⟨tl2, Pl, el⟩ := xfE "line"
    obtain ⟨tc2, Pc, ec⟩ := xfE "place"
    have dk : ∀ H2, Same H' H2 → ∀ dd, d = some dd → ∃ fs, H2 dd = some (.xd fs) := fun H2 s2 dd e => by
      rcases hq with ⟨z, _⟩ | ⟨_, _, _, _, d2, _, _, z, hx, _⟩ | ⟨_, _, _, d2, _, z, hx, _⟩ | ⟨_, _, _, d2, _, z, hx, _⟩
      · rw [z] at e; cases e
      all_goals (rw [z] at e; cases e; exact ⟨_, s2 _ _ hx⟩)
    have iE := call_isEd (X := Z) (a := a) (D := D) (oe := oe) (d := d) (pn := pn) e15.cl hz hf
    refine PSs.run (X := Z.suite a ((a, oe) :: pn)) (pss_cons (ps_set (i := 2) sc_l_error_of.nd rfl (.inl rfl) (pe_lst (pa_cons (pe_callB iE (by rfl) B.isi PyProof.Rows.boot_isinstance (pa_cons (pv 1) (pa_cons (pe_glob (v := .ref (c 0)) (by rfl) M.g0 rfl) pa_nil))) (pa_cons (pe_callB iE (by rfl) B.isi PyProof.Rows.boot_isinstance (pa_cons (pv 1) (pa_cons (pe_glob (v := .ref (c 1)) (by rfl) M.g1 rfl) pa_nil))) (pa_cons (pe_callB iE (by rfl) B.isi PyProof.Rows.boot_isinstance (pa_cons (pv 1) (pa_cons (pe_glob (v := .ref (c 2)) (by rfl) M.g2 rfl) pa_nil))) pa_nil)))))
        (pss_cons (ps_set (i := 2) sc_l_error_of.nd rfl (.inl rfl) (pe_op op_cat (pv 2) (pe_lst (pa_cons (pe_callB iE (by rfl) B.isi PyProof.Rows.boot_isinstance (pa_cons (pv 1) (pa_cons (pe_glob (v := .ref (c 3)) (by rfl) M.g3 rfl) pa_nil))) (pa_cons (pe_callB iE (by rfl) B.isi PyProof.Rows.boot_isinstance (pa_cons (pv 1) (pa_cons (pe_glob (v := .ref (c 4)) (by rfl) M.g4 rfl) pa_nil))) (pa_cons (pe_callB iE (by rfl) B.isi PyProof.Rows.boot_isinstance (pa_cons (pv 1) (pa_cons (pe_glob (v := .ref (c 5)) (by rfl) M.g5 rfl) pa_nil))) pa_nil))))))
        (pss_cons (ps_set (i := 2) sc_l_error_of.nd rfl (.inl rfl) (pe_op op_cat (pv 2) (pe_lst (pa_cons (pe_callB iE (by rfl) B.isi PyProof.Rows.boot_isinstance (pa_cons (pv 1) (pa_cons (pe_glob (v := .ref (c 6)) (by rfl) M.g6 rfl) pa_nil))) (pa_cons (pe_callB iE (by rfl) B.isi PyProof.Rows.boot_isinstance (pa_cons (pv 1) (pa_cons (pe_glob (v := .ref (c 7)) (by rfl) M.g7 rfl) pa_nil))) (pa_cons (pe_callB iE (by rfl) B.isi PyProof.Rows.boot_isinstance (pa_cons (pv 1) (pa_cons (pe_glob (v := .ref (c 8)) (by rfl) M.g8 rfl) pa_nil))) pa_nil))))))
        (pss_cons (ps_set (i := 2) sc_l_error_of.nd rfl (.inl rfl) (pe_op op_cat (pv 2) (pe_lst (pa_cons (pe_callB iE (by rfl) B.isi PyProof.Rows.boot_isinstance (pa_cons (pv 1) (pa_cons (pe_glob (v := .ref (c 9)) (by rfl) M.g9 rfl) pa_nil))) (pa_cons (pe_callB iE (by rfl) B.isi PyProof.Rows.boot_isinstance (pa_cons (pv 1) (pa_cons (pe_glob (v := .ref (c 10)) (by rfl) M.g10 rfl) pa_nil))) (pa_cons (pe_callB iE (by rfl) B.isi PyProof.Rows.boot_isinstance (pa_cons (pv 1) (pa_cons (pe_glob (v := .ref (c 11)) (by rfl) M.g11 rfl) pa_nil))) pa_nil))))))
        (pss_cons (ps_set (i := 2) sc_l_error_of.nd rfl (.inl rfl) (pe_op op_cat (pv 2) (pe_lst (pa_cons (pe_callB iE (by rfl) B.isi PyProof.Rows.boot_isinstance (pa_cons (pv 1) (pa_cons (pe_glob (v := .ref (c 12)) (by rfl) M.g12 rfl) pa_nil))) (pa_cons (pe_callB iE (by rfl) B.isi PyProof.Rows.boot_isinstance (pa_cons (pv 1) (pa_cons (pe_glob (v := .ref (c 13)) (by rfl) M.g13 rfl) pa_nil))) (pa_cons (pe_callB iE (by rfl) B.isi PyProof.Rows.boot_isinstance (pa_cons (pv 1) (pa_cons (pe_glob (v := .ref (c 14)) (by rfl) M.g14 rfl) pa_nil))) pa_nil))))))
        (pss_cons (ps_if (PW.pt (pw_or (pt_cmpR op_ne (pe_bm PySem.F.plainAttrs_list PySem.F.slot_list_count PySem.F.type_list_count (mt_countD hu) (pv 2) (pa_cons pe_bl pa_nil)) pe_int (nomark _)) (pw_or1 (pt_not (pt_val (pe_callB iE (by rfl) B.isi PyProof.Rows.boot_isinstance (pa_cons (pv 1) (pa_cons (pe_bltn (v := .ty "ValueError") (by rfl) M.gv (by decide +kernel) rfl) pa_nil)))))))) (pss_one (ps_ret (pe_tup (pa_cons pe_str (pa_cons pe_int pa_nil))))) pss_nil)
        (pss_cons (ps_set (i := 3) sc_l_error_of.nd rfl (.inl rfl) (pe_lst (pa_cons pe_str (pa_cons pe_str (pa_cons pe_str (pa_cons pe_str (pa_cons pe_str (pa_cons pe_str (pa_cons pe_str (pa_cons pe_str (pa_cons pe_str (pa_cons pe_str pa_nil))))))))))))
        (pss_cons (ps_set (i := 4) sc_l_error_of.nd rfl (.inl rfl) (pe_ix ix_list (pe_op op_cat (pv 3) (pe_lst (pa_cons pe_str (pa_cons pe_str (pa_cons pe_str (pa_cons pe_str (pa_cons pe_str pa_nil))))))) (pe_bm PySem.F.plainAttrs_list PySem.F.slot_list_index PySem.F.type_list_index mt_index (pv 2) (pa_cons pe_bl pa_nil)) (fun _ _ => rfl)))
        (pss_cons (ps_if (pt_cmpR op_eq (pv 4) pe_str (nomark _)) (pss_one (ps_ret (pe_tup (pa_cons (pv 4) (pa_cons (pe_tup (pa_cons (Pp _ _) (pa_cons (Pi _ _) pa_nil))) pa_nil))))) pss_nil)
        (pss_cons (ps_if (pt_cmpR op_eq (pv 4) pe_str (nomark _)) (pss_one (ps_ret (pe_tup (pa_cons (pv 4) (pa_cons (Pl _ _) pa_nil))))) pss_nil)
        (pss_one (ps_ret (pe_tup (pa_cons (pv 4) (pa_cons (pe_ifExp (pt_cmpR op_in_seq (pv 4) (pe_lst (pa_cons pe_str (pa_cons pe_str pa_nil))) rfl) (Pc _ _) pe_int) pa_nil))))))))))))))) pins s' _ H' Dn I' ?_
    refine ⟨_, rfl, .ref (c 0), .ref (c 0), _, rfl, (fun _ r => r), e15.is 0 (by decide), (dk _ (.refl _)), _, rfl, .ref (c 1), .ref (c 1), _, rfl, (fun _ r => r), e15.is 1 (by decide), (dk _ (.refl _)), _, rfl, .ref (c 2), .ref (c 2), _, rfl, (fun _ r => r), e15.is 2 (by decide), (dk _ (.refl _)), (by show 3 ≤ sizeLine; decide), fun l0 n0 => ?_⟩
    have hk0 : (upd H' l0 (.lst [.bl (decide (0 = i)), .bl (decide (1 = i)), .bl (decide (2 = i))])) l0 = some (.lst [.bl (decide (0 = i)), .bl (decide (1 = i)), .bl (decide (2 = i))]) := upd_same
    have sm0 := same_upd (o := HO.lst [.bl (decide (0 = i)), .bl (decide (1 = i)), .bl (decide (2 = i))]) n0
    generalize (upd H' l0 (.lst [.bl (decide (0 = i)), .bl (decide (1 = i)), .bl (decide (2 = i))])) = H0 at hk0 sm0
    refine ⟨_, rfl, _, rfl, .ref (c 3), .ref (c 3), _, rfl, (fun _ r => r), e15.is 3 (by decide), (dk _ sm0), _, rfl, .ref (c 4), .ref (c 4), _, rfl, (fun _ r => r), e15.is 4 (by decide), (dk _ sm0), _, rfl, .ref (c 5), .ref (c 5), _, rfl, (fun _ r => r), e15.is 5 (by decide), (dk _ sm0), (by show 3 ≤ sizeLine; decide), fun b1 nb1 => ?_⟩
    obtain ⟨L1, eL1⟩ : ∃ L : List V, L = [.bl (decide (0 = i)), .bl (decide (1 = i)), .bl (decide (2 = i))] ++ [.bl (decide (3 = i)), .bl (decide (4 = i)), .bl (decide (5 = i))] := ⟨_, rfl⟩
    have sb1 := same_upd (o := HO.lst [.bl (decide (3 = i)), .bl (decide (4 = i)), .bl (decide (5 = i))]) nb1
    refine ⟨l0, b1, _, _, rfl, rfl, sb1 _ _ hk0, upd_same, (by show 3 + 3 ≤ sizeLine; decide), fun l1 n1 => ?_⟩
    rw [← eL1]
    have sm1 := sm0.trans (sb1.trans (same_upd (o := HO.lst L1) n1))
    have hk1 : (upd (upd H0 b1 (.lst [.bl (decide (3 = i)), .bl (decide (4 = i)), .bl (decide (5 = i))])) l1 (.lst L1)) l1 = some (.lst L1) := upd_same
    generalize (upd (upd H0 b1 (.lst [.bl (decide (3 = i)), .bl (decide (4 = i)), .bl (decide (5 = i))])) l1 (.lst L1)) = H1 at hk1 sm1
    refine ⟨_, rfl, _, rfl, .ref (c 6), .ref (c 6), _, rfl, (fun _ r => r), e15.is 6 (by decide), (dk _ sm1), _, rfl, .ref (c 7), .ref (c 7), _, rfl, (fun _ r => r), e15.is 7 (by decide), (dk _ sm1), _, rfl, .ref (c 8), .ref (c 8), _, rfl, (fun _ r => r), e15.is 8 (by decide), (dk _ sm1), (by show 3 ≤ sizeLine; decide), fun b2 nb2 => ?_⟩
    obtain ⟨L2, eL2⟩ : ∃ L : List V, L = L1 ++ [.bl (decide (6 = i)), .bl (decide (7 = i)), .bl (decide (8 = i))] := ⟨_, rfl⟩
    have sb2 := same_upd (o := HO.lst [.bl (decide (6 = i)), .bl (decide (7 = i)), .bl (decide (8 = i))]) nb2
    refine ⟨l1, b2, _, _, rfl, rfl, sb2 _ _ hk1, upd_same, (by rw [eL1]; show 6 + 3 ≤ sizeLine; decide), fun l2 n2 => ?_⟩
    rw [← eL2]
    have sm2 := sm1.trans (sb2.trans (same_upd (o := HO.lst L2) n2))
    have hk2 : (upd (upd H1 b2 (.lst [.bl (decide (6 = i)), .bl (decide (7 = i)), .bl (decide (8 = i))])) l2 (.lst L2)) l2 = some (.lst L2) := upd_same
    generalize (upd (upd H1 b2 (.lst [.bl (decide (6 = i)), .bl (decide (7 = i)), .bl (decide (8 = i))])) l2 (.lst L2)) = H2 at hk2 sm2
    refine ⟨_, rfl, _, rfl, .ref (c 9), .ref (c 9), _, rfl, (fun _ r => r), e15.is 9 (by decide), (dk _ sm2), _, rfl, .ref (c 10), .ref (c 10), _, rfl, (fun _ r => r), e15.is 10 (by decide), (dk _ sm2), _, rfl, .ref (c 11), .ref (c 11), _, rfl, (fun _ r => r), e15.is 11 (by decide), (dk _ sm2), (by show 3 ≤ sizeLine; decide), fun b3 nb3 => ?_⟩
    obtain ⟨L3, eL3⟩ : ∃ L : List V, L = L2 ++ [.bl (decide (9 = i)), .bl (decide (10 = i)), .bl (decide (11 = i))] := ⟨_, rfl⟩
    have sb3 := same_upd (o := HO.lst [.bl (decide (9 = i)), .bl (decide (10 = i)), .bl (decide (11 = i))]) nb3
    refine ⟨l2, b3, _, _, rfl, rfl, sb3 _ _ hk2, upd_same, (by rw [eL2, eL1]; show 9 + 3 ≤ sizeLine; decide), fun l3 n3 => ?_⟩
    rw [← eL3]
    have sm3 := sm2.trans (sb3.trans (same_upd (o := HO.lst L3) n3))
    have hk3 : (upd (upd H2 b3 (.lst [.bl (decide (9 = i)), .bl (decide (10 = i)), .bl (decide (11 = i))])) l3 (.lst L3)) l3 = some (.lst L3) := upd_same
    generalize (upd (upd H2 b3 (.lst [.bl (decide (9 = i)), .bl (decide (10 = i)), .bl (decide (11 = i))])) l3 (.lst L3)) = H3 at hk3 sm3
    refine ⟨_, rfl, _, rfl, .ref (c 12), .ref (c 12), _, rfl, (fun _ r => r), e15.is 12 (by decide), (dk _ sm3), _, rfl, .ref (c 13), .ref (c 13), _, rfl, (fun _ r => r), e15.is 13 (by decide), (dk _ sm3), _, rfl, .ref (c 14), .ref (c 14), _, rfl, (fun _ r => r), e15.is 14 (by decide), (dk _ sm3), (by show 3 ≤ sizeLine; decide), fun b4 nb4 => ?_⟩
    obtain ⟨L4, eL4⟩ : ∃ L : List V, L = L3 ++ [.bl (decide (12 = i)), .bl (decide (13 = i)), .bl (decide (14 = i))] := ⟨_, rfl⟩
    have sb4 := same_upd (o := HO.lst [.bl (decide (12 = i)), .bl (decide (13 = i)), .bl (decide (14 = i))]) nb4
    refine ⟨l3, b4, _, _, rfl, rfl, sb4 _ _ hk3, upd_same, (by rw [eL3, eL2, eL1]; show 12 + 3 ≤ sizeLine; decide), fun l4 n4 => ?_⟩
    rw [← eL4]
    have sm4 := sm3.trans (sb4.trans (same_upd (o := HO.lst L4) n4))
    have hk4 : (upd (upd H3 b4 (.lst [.bl (decide (12 = i)), .bl (decide (13 = i)), .bl (decide (14 = i))])) l4 (.lst L4)) l4 = some (.lst L4) := upd_same
    generalize (upd (upd H3 b4 (.lst [.bl (decide (12 = i)), .bl (decide (13 = i)), .bl (decide (14 = i))])) l4 (.lst L4)) = H4 at hk4 sm4
    have hk : H4 l4 = some (.lst (kindsL i)) := by rw [hk4, eL4, eL3, eL2, eL1]; rfl
    clear hk4 hk3 hk2 hk1 hk0
    refine ⟨_, rfl, .inl ⟨rfl, _, SqL.of hk⟩, l4, _, .bl true, .bool true, _, rfl, rfl, SqL.of hk, kinds_dp i, .bl true, kinds_plain i, rfl, by decide, ?_⟩
    rw [kinds_count i e15.lt]
    refine ⟨rfl, _, rfl, iteF ⟨_, rfl, .ty "ValueError", .type "ValueError", _, rfl, (fun _ r => r), e15.ve, (dk _ sm4), _, rfl, iteF ?_⟩⟩
    refine ⟨(by show 10 ≤ sizeLine; decide), fun m1 nm1 => ?_⟩
    have st1 := same_upd (o := HO.lst ((eNames.take 10).map V.str)) nm1
    refine ⟨_, rfl, (by show 5 ≤ sizeLine; decide), fun m2 nm2 => ?_⟩
    have st2 := same_upd (o := HO.lst ((eNames.drop 10).map V.str)) nm2
    refine ⟨m1, m2, _, _, rfl, rfl, st2 _ _ upd_same, upd_same, (by show 10 + 5 ≤ sizeLine; decide), fun m3 nm3 => ?_⟩
    have st3 := same_upd (o := HO.lst (eNames.map V.str)) nm3
    have hkm := (st1.trans (st2.trans st3)) _ _ hk
    refine ⟨_, rfl, .inl ⟨rfl, _, SqL.of hkm⟩, l4, _, .bl true, i, .bl (decide (i = i)), rfl, rfl, SqL.of hkm, rfl, kinds_flat i, kinds_at e15.lt, by simp [eqV], fun m z hm hz2 => ?_, m3, eNames.map V.str, (i : Nat), _, rfl, rfl, SqL.of upd_same, atI_nat (eName_at e15.lt), ?_⟩
    · rw [kinds_at (by omega)] at hz2
      obtain rfl := Option.some.inj hz2
      rw [decide_eq_false (by omega)]
      rfl
    have sA := sm4.trans (st1.trans (st2.trans st3))
    rcases hq with ⟨rfl, hi, hq⟩ | ⟨rfl, xc, f1, f2, dd, part, n, rfl, hx, hq⟩ | ⟨rfl, xc, f1, dd, n, rfl, hx, hq⟩ | ⟨hi, xc, f1, dd, n, rfl, hx, hq⟩
    · obtain ⟨p1, p2, p3, p4⟩ := eName_plain i hi
      refine ⟨_, rfl, rfl, _, rfl, ?_⟩
      rw [decide_eq_false fun z => p1 (V.str.inj z)]
      refine iteF ⟨_, rfl, rfl, _, rfl, ?_⟩
      rw [decide_eq_false fun z => p2 (V.str.inj z)]
      refine iteF ⟨_, rfl, _, rfl, (by show 2 ≤ sizeLine; decide), fun m4 nm4 => ⟨m4, _, rfl, .inl (SqL.of upd_same), rfl, rfl, _, rfl, ?_⟩⟩
      have ev : inV (.str (eName i)) [.str "code", .str "operation"] = false := by
        unfold inV
        rw [List.any_cons, List.any_cons, List.any_nil]
        show ((("code" : Str) == eName i) || ((("operation" : Str) == eName i) || false)) = false
        rw [beq_eq_false_iff_ne.mpr (Ne.symm p3), beq_eq_false_iff_ne.mpr (Ne.symm p4)]
        rfl
      rw [ev]
      have st4 := same_upd (o := HO.lst [.str "code", .str "operation"]) nm4
      exact iteF ⟨(by show 2 ≤ sizeLine; decide), fun u nu => hq u _ (sA.trans (st4.trans (same_upd nu))) upd_same⟩
    · obtain rfl := ep xc f1
      obtain rfl := ei xc f2
      have hx9 := sA _ _ hx
      refine ⟨_, rfl, rfl, true, congrArg V.bl (decide_eq_true rfl), iteT ?_⟩
      refine ⟨_, rfl, _, rfl, rfl, rfl, dd, _, _, rfl, hx9, rfl, _, rfl, rfl, rfl, dd, _, _, rfl, hx9, rfl, (by show 2 ≤ sizeLine; decide), fun v nv => ⟨(by show 2 ≤ sizeLine; decide), fun u nu => ?_⟩⟩
      exact hq u v _ (sA.trans ((same_upd nv).trans (same_upd nu))) (same_upd nu _ _ upd_same) upd_same
    · obtain rfl := el xc f1
      have hx9 := sA _ _ hx
      refine ⟨_, rfl, rfl, false, congrArg V.bl (decide_eq_false (by decide +kernel)), iteF ?_⟩
      refine ⟨_, rfl, rfl, true, congrArg V.bl (decide_eq_true rfl), iteT ?_⟩
      refine ⟨_, rfl, _, rfl, rfl, rfl, dd, _, _, rfl, hx9, rfl, (by show 2 ≤ sizeLine; decide), fun u nu => ?_⟩
      exact hq u _ (sA.trans (same_upd nu)) upd_same
    · obtain rfl := ec xc f1
      have hx9 := sA _ _ hx
      have q1 : eName i ≠ "net" := by rcases hi with rfl | rfl <;> decide +kernel
      have q2 : eName i ≠ "text" := by rcases hi with rfl | rfl <;> decide +kernel
      refine ⟨_, rfl, rfl, false, congrArg V.bl (decide_eq_false fun z => q1 (V.str.inj z)), iteF ?_⟩
      refine ⟨_, rfl, rfl, false, congrArg V.bl (decide_eq_false fun z => q2 (V.str.inj z)), iteF ?_⟩
      refine ⟨_, rfl, _, rfl, (by show 2 ≤ sizeLine; decide), fun m4 nm4 => ⟨m4, _, rfl, .inl (SqL.of upd_same), rfl, rfl, _, rfl, ?_⟩⟩
      have st4 := same_upd (o := HO.lst [.str "code", .str "operation"]) nm4
      have ev : inV (.str (eName i)) [.str "code", .str "operation"] = true := by rcases hi with rfl | rfl <;> decide +kernel
      rw [ev]
      refine iteT ⟨_, rfl, rfl, rfl, dd, _, _, rfl, st4 _ _ hx9, rfl, (by show 2 ≤ sizeLine; decide), fun u nu => ?_⟩
      exact hq u _ (sA.trans (st4.trans (same_upd nu))) upd_same
  · refine ⟨fun cls d H' => ErrE X.K CP c cls d H' Q, fun cls d σ' H' hx => ?_, rfl, h⟩
    obtain ⟨D, i, rfl, e15, hq⟩ := hx
    exact ⟨true, e15.ex, fun _ a _ => ⟨⟨D, i, rfl, e15, hq⟩, _, rfl⟩, fun z => by cases z⟩
theorem err_givesE {q : Str} {g CP : Addr} {cdg : Value} {c : Nat → Addr} {k : Nat} (M : ErrM X.mg CP c) (B : Blt X.mg) (hr : Room (k + 2) X.A) :
    GivesTo X N_l_error_of "_law_error_of" (defScope s_l_error_of) g cdg (defBody s_l_error_of) "_law_call" q (TTerrE X.K CP c) := by
  intro f c' s H Q tl act hc h
  exact err_coreE M B hr (tl := fun E HZ Q' => HZ c' = some (CodeO c' q) ∧ tl E HZ Q') (fun W pn xe E p1 p2 tk hW => act W pn xe E p1 p2 tk hW) ⟨hc, h⟩
end
/-! ### the errors as data -/
def errD2 (i : Nat) : PyData := .tuple [.str (eName i), .int 0]
theorem errD2_shaped : ∀ i, i < 15 → PySem.SeqAt.shaped (errD2 i) = true := by decide +kernel
theorem eqv_selfN {d : PyData} (h : PySem.SeqAt.shaped d = true) : (!PyData.eqv d d) = false := by rw [PySem.SeqAt.eqv_refl _ (PySem.SeqAt.canLay_of_shaped h)]; rfl
/-! ### orders as data -/
def odD (o : Od) : PyData := .tuple [.int o.s, .int o.t, .int o.f, .int o.n, .int o.e]
theorem od_dp {K : PySem.W.Frag} {H : Hp} {v : V} {o : Od} (h : OrdAt H v o) : Dp K H v (odD o) := by
  obtain ⟨u, rfl, hu⟩ := h
  exact .tup (SqT.of hu) (.cons (.int _) (.cons (.int _) (.cons (.int _) (.cons (.int _) (.cons (.int _) .nil)))))
theorem ints_flat (l : List Nat) : (nints l).all flatV = true := by
  unfold nints
  rw [List.all_eq_true]
  intro v hv
  obtain ⟨n, _, rfl⟩ := List.mem_map.mp hv
  rfl
theorem inV_ints {d : Nat} (l : List Nat) : inV (.int (d : Nat)) (nints l) = decide (d ∈ l) := by
  unfold inV nints
  induction l with
  | nil => rfl
  | cons n r ih =>
    rw [List.map_cons, List.any_cons, ih]
    have e : eqV (V.int (n : Int)) (V.int (d : Int)) = decide ((n : Int) = (d : Int)) := rfl
    rw [e]
    by_cases h1 : n = d
    · subst h1
      simp
    · rw [decide_eq_false (show ¬ (n : Int) = (d : Int) by omega), Bool.false_or]
      by_cases h2 : d ∈ r
      · rw [decide_eq_true h2, decide_eq_true (List.mem_cons_of_mem _ h2)]
      · rw [decide_eq_false h2, decide_eq_false fun z => (List.mem_cons.mp z).elim (fun y => h1 y.symm) h2]
theorem ods_dp {K : PySem.W.Frag} {H : Hp} {vs : List V} {l : List Od} (h : Paired (OrdAt H) vs l) : DpAll K H vs (l.map odD) := by
  induction h with
  | nil => exact .nil
  | cons r _ ih => exact .cons (od_dp r) ih
theorem ods_depth : ∀ l : List Od, PyData.depthAll (l.map odD) ≤ 1
  | [] => by simp [PyData.depthAll]
  | s :: l => by
    have h1 := ods_depth l
    have h2 : (odD s).depth = 1 := by simp [odD, PyData.depth, PyData.depthAll]
    simp only [List.map_cons, PyData.depthAll]
    omega
theorem ods_lay : ∀ l : List Od, PyData.canLayAll0 (l.map odD) = true
  | [] => by simp [PyData.canLayAll0]
  | s :: l => by
    have h : (odD s).canLay0 = true := by simp [odD, PyData.canLay0, PyData.canLayAll0]
    simp [PyData.canLayAll0, h, ods_lay l]
theorem ods_shaped (l : List Od) : PySem.SeqAt.shaped (.tuple (l.map odD)) = true := by
  have h1 := ods_depth l
  show (PyData.canLay0 (.tuple (l.map odD)) && decide (PyData.depth (.tuple (l.map odD)) ≤ 64)) = true
  rw [Bool.and_eq_true]
  refine ⟨by simp only [PyData.canLay0]; exact ods_lay l, decide_eq_true ?_⟩
  simp only [PyData.depth]
  omega
theorem od_shaped (o : Od) : PySem.SeqAt.shaped (odD o) = true := by
  show ((odD o).canLay0 && decide ((odD o).depth ≤ 64)) = true
  rw [Bool.and_eq_true]
  refine ⟨by simp [odD, PyData.canLay0, PyData.canLayAll0], decide_eq_true ?_⟩
  have h2 : (odD o).depth = 1 := by simp [odD, PyData.depth, PyData.depthAll]
  omega
theorem od_self (o : Od) : PyData.eqv (odD o) (odD o) = true := PySem.SeqAt.eqv_refl _ (PySem.SeqAt.canLay_of_shaped (od_shaped o))
/-! ### what is no tuple -/
inductive NoTup (H : Hp) : V → Prop where
  | non : NoTup H .non
  | int {i : Int} : NoTup H (.int i)
  | bl {b : Bool} : NoTup H (.bl b)
  | str {s : Str} : NoTup H (.str s)
  | lst {a : Addr} {xs : List V} (e : H a = some (.lst xs)) : NoTup H (.ref a)
theorem NoTup.keepL {H H' : Hp} {v : V} (n : NoTup H v) (k : ∀ a xs, H a = some (.lst xs) → H' a = some (.lst xs)) : NoTup H' v := by
  cases n with
  | non => exact .non
  | int => exact .int
  | bl => exact .bl
  | str => exact .str
  | lst e => exact .lst (k _ _ e)
theorem NoTup.ty {K : PySem.W.Frag} {H : Hp} {v : V} (n : NoTup H v) : ∃ t, TyX K H v (.type t) ∧ kitB t "tuple" = some false := by
  cases n with
  | non => exact ⟨"NoneType", .base .non, by decide +kernel⟩
  | int => exact ⟨"int", .base (.int _), by decide +kernel⟩
  | bl => exact ⟨"bool", .base (.bl _), by decide +kernel⟩
  | str => exact ⟨"str", .base (.str _), by decide +kernel⟩
  | lst e => exact ⟨"list", .base (.lst e), by decide +kernel⟩
/-! ### values of which it is known what kind they are of -/
inductive KnT (H : Hp) : V → Prop where
  | int {i : Int} : KnT H (.int i)
  | non : KnT H .non
  | bl {b : Bool} : KnT H (.bl b)
  | str {s : Str} : KnT H (.str s)
  | tup {a : Addr} {xs : List V} (h : H a = some (.tup xs)) : KnT H (.ref a)
theorem KnT.keep {H H' : Hp} {v : V} (h : KnT H v) (k : TupKeep H H') : KnT H' v := by
  cases h with
  | int => exact .int
  | non => exact .non
  | bl => exact .bl
  | str => exact .str
  | tup h => exact .tup (k _ _ h)
theorem KnT.kn {K : PySem.W.Frag} {H : Hp} {v : V} (h : KnT H v) : Kn K H v := by
  cases h with
  | int => exact .int
  | non => exact .inr ⟨.inr ⟨"NoneType", .base .non, by decide +kernel⟩, fun i z => by cases z⟩
  | bl => exact .inr ⟨.inl ⟨_, rfl⟩, fun i z => by cases z⟩
  | str => exact .inr ⟨.inr ⟨"str", .base (.str _), by decide +kernel⟩, fun i z => by cases z⟩
  | tup h => exact .inr ⟨.inr ⟨"tuple", .base (.tup h), by decide +kernel⟩, fun i z => by cases z⟩
theorem wN {i lo hi : Int} (c : hi < i) : withinB (.int i) lo hi = false := by
  show (decide (lo ≤ i) && decide (i ≤ hi)) = false
  rw [decide_eq_false (show ¬ i ≤ hi by omega), Bool.and_false]
theorem wZ {i lo hi : Int} (c : i < lo) : withinB (.int i) lo hi = false := by
  show (decide (lo ≤ i) && decide (i ≤ hi)) = false
  rw [decide_eq_false (show ¬ lo ≤ i by omega), Bool.false_and]
/-- a value that is no list -/
theorem KnT.noList {K : PySem.W.Frag} {H : Hp} {v : V} (n : KnT H v) : ∃ t, TyX K H v (.type t) ∧ kitB t "list" = some false := by
  cases n with
  | int => exact ⟨"int", .base (.int _), by decide +kernel⟩
  | non => exact ⟨"NoneType", .base .non, by decide +kernel⟩
  | bl => exact ⟨"bool", .base (.bl _), by decide +kernel⟩
  | str => exact ⟨"str", .base (.str _), by decide +kernel⟩
  | tup h => exact ⟨"tuple", .base (.tup h), by decide +kernel⟩
/-! ### lists said again and again -/
theorem paired_rep {α β : Type} {F : α → β → Prop} {xs : List α} {l : List β} (h : Paired F xs l) : ∀ n, Paired F (List.replicate n xs).flatten (List.replicate n l).flatten
  | 0 => .nil
  | n + 1 => by
    rw [List.replicate_succ, List.flatten_cons, List.replicate_succ, List.flatten_cons]
    exact Paired.app h (paired_rep h n)
theorem mem_rep {α : Type} {l : List α} {x : α} : ∀ {n : Nat}, x ∈ (List.replicate n l).flatten → x ∈ l
  | 0, h => by cases h
  | n + 1, h => by
    rw [List.replicate_succ, List.flatten_cons] at h
    exact (List.mem_append.mp h).elim id mem_rep
/-! ### k02: the answer of the helper, compared with a literal -/
def netD (part : Str) (n : Nat) : PyData := .tuple [.str "net", .tuple [.str part, .int n]]
theorem netD_sh {part : Str} {n : Nat} (hp : PyData.strOk part = true) : PySem.SeqAt.shaped (netD part n) = true := by
  have h1 : PyData.strOk ("net" : Str) = true := by decide +kernel
  simp [netD, PySem.SeqAt.shaped, PyData.canLay0, PyData.canLayAll0, PyData.depth, PyData.depthAll, hp, h1]
theorem netD_dp {K : PySem.W.Frag} {H : Hp} {u v : Addr} {part : Str} {n : Nat} (hu : H u = some (.tup [.str "net", .ref v])) (hv : H v = some (.tup [.str part, .int n])) : Dp K H (.ref u) (netD part n) :=
  .tup (SqT.of hu) (.cons (.str _) (.cons (.tup (SqT.of hv) (.cons (.str _) (.cons (.int _) .nil))) .nil))
theorem net_lit {K : PySem.W.Frag} {σ : L2.St} {H : Hp} {u v : Addr} {part : Str} {n : Nat} {te : TE} {R : Bool → Hp → Prop} (hp : PyData.strOk part = true) (hu : H u = some (.tup [.str "net", .ref v])) (hv : H v = some (.tup [.str part, .int n])) (ht : ∀ k : V → Hp → Prop, k (.int n) H → te σ H k) (q : ∀ H', Same H H' → R false H') :
    tTup (tCons (tC (.str "net")) (tCons (tTup (tCons (tC (.str part)) (tCons te tNil))) tNil)) σ H (fun y H2 => rNeD K (.ref u) y H2 fun x H' => ∃ b, x = V.bl b ∧ R b H') := by
  refine ht _ ⟨(by show 2 ≤ sizeLine; decide), fun y ny => ⟨(by show 2 ≤ sizeLine; decide), fun z nz => ?_⟩⟩
  have s1 := same_upd (o := HO.tup [.str part, .int n]) ny
  have s2 := same_upd (o := HO.tup [.str "net", .ref y]) nz
  have s12 := s1.trans s2
  exact ⟨netD part n, netD part n, netD_dp (s12 _ _ hu) (s12 _ _ hv), netD_dp upd_same (s2 _ _ upd_same), netD_sh hp, netD_sh hp, false, congrArg V.bl (eqv_selfN (netD_sh hp)), q _ s12⟩
/-! ### what an office raises -/
def spChkIxX (D : Addr) : Sp := fun vs H _ E => ∃ (t : Addr) (i : Int) (ts : List V), vs = [.ref t, .int i] ∧ H t = some (.tup ts) ∧ ¬ (0 ≤ i ∧ i < ts.length) ∧ E (.ref D) none H
def spAddX (O C DI DM : Addr) : Sp := fun vs H _ E => ∃ (o : Addr) (v : V) (od : Od) (S : OffS), vs = [.ref o, v] ∧ OffAt O C H o S ∧ OrdAt H v od ∧ (orderB S.p S.h od.vs = false ∨ (OdOk S.p S.h od ∧ S.cur.length = 20)) ∧
  (orderB S.p S.h od.vs = false → E (.ref DI) none H) ∧ (OdOk S.p S.h od → S.cur.length = 20 → E (.ref DM) none H)
def spIxX (O C D : Addr) : Sp := fun vs H _ E => ∃ (o : Addr) (i : Int) (S : OffS), vs = [.ref o, .int i] ∧ OffAt O C H o S ∧ ¬ (0 ≤ i ∧ i < S.cur.length) ∧ E (.ref D) none H
def spProlongX (O C D DI : Addr) : Sp := fun vs H _ E => ∃ (o : Addr) (i : Int) (n : Nat) (S : OffS), vs = [.ref o, .int i, .int n] ∧ OffAt O C H o S ∧
  ((¬ (0 ≤ i ∧ i < S.cur.length) ∧ E (.ref D) none H) ∨ ∃ (k : Nat) (od : Od), i = (k : Nat) ∧ S.cur[k]? = some od ∧ orderB S.p S.h (proO od n).vs = false ∧ ∀ H', Same H H' → E (.ref DI) none H')
theorem OrdAt.likeB {K : PySem.W.Frag} {H : Hp} {v : V} {o : Od} {p h : Int} (q : OrdAt H v o) : OrderLike K H v p h (orderB p h o.vs) := by
  obtain ⟨t, rfl, ht⟩ := q
  refine .inl ⟨t, _, rfl, ht, fun x hx => ?_, rfl⟩
  have hx : x ∈ [V.int (o.s : Int), V.int (o.t : Int), V.int (o.f : Int), V.int (o.n : Int), V.int (o.e : Int)] := hx
  simp only [List.mem_cons, List.not_mem_nil, or_false] at hx
  rcases hx with rfl | rfl | rfl | rfl | rfl <;> exact .int
section
variable {P : Program} {w : World} {K : PySem.W.Frag} {mg : Str → Option Value} {base : Heap}
theorem ok_chk_ixX {f D : Addr} {fd : FuncData} (F : Fun K "check_index" "check_index" s_check_index f fd) (B : Blt mg) (ER : ErrR K mg "UnknownOrder" D) (DW : Df P w K mg base "is_within" 2 P_is_within (spWithin K)) : FnOk P w K mg base (L2.CX P w) 3 f fd P_check_index (spChkIxX D) := by
  obtain ⟨fW, fdW, gW, kW, bW, GW⟩ := DW
  refine F.okX sc_check_index (fun vs H Q E h => ?_) (fun cdv A outer s H vs Q E hr h => ?_)
  · obtain ⟨t, i, ts, rfl, _⟩ := h
    rfl
  · obtain ⟨t, i, ts, rfl, ht, hk, q⟩ := h
    refine ⟨_, pss_one (ps_if (pt_not (pt_val (pe_call GW hr (by rfl) gW kW bW .nil pass0 (pa_cons (pv 1) (pa_cons pe_int (pa_cons (pe_op op_sub (pe_callB call_len_seq (by rfl) B.len PySem.boot_len (pa_cons (pv 0) pa_nil)) pe_int) pa_nil)))))) (pss_one (ps_raise rfl (takes_of rfl rfl rfl rfl) (pmk_err ER (by rfl)))) pss_nil), ?_⟩
    refine ⟨_, rfl, _, rfl, t, _, rfl, .inr (SqT.of ht), _, _, rfl, rfl, _, 0, ((ts.length : Int) - 1), rfl, .int, _, rfl, ?_⟩
    rw [show withinB (.int i) 0 ((ts.length : Int) - 1) = false by
      show (decide ((0 : Int) ≤ i) && decide (i ≤ (ts.length : Int) - 1)) = false
      by_cases c : 0 ≤ i
      · rw [decide_eq_true c, decide_eq_false (by omega)]
        rfl
      · rw [decide_eq_false c]
        rfl]
    exact iteT q
theorem ok_addX {f O C pP fP DI DM : Addr} {fd fdP : FuncData} (F : Fun K "add" "Office.add" s_Office_add f fd) (B : Blt mg) (T : OffT K O) (TN : NetT K C) (ERI : ErrR K mg "InvalidOrder" DI) (ERM : ErrR K mg "TooManyOrders" DM) (pO : PropOf K O "present_orders" pP fP) (GP : FnOk P w K mg base CX0 1 fP fdP P_Office_present_orders (spPres O C)) (bP : Binds K fdP P_Office_present_orders [])
    (DO : Df P w K mg base "is_order" 3 P_is_order (spIsOrder K)) (hM : ∃ t, mg "MOST_ORDERS" = some (.int 20 t)) : FnOk P w K mg base (L2.CX P w) 4 f fd P_Office_add (spAddX O C DI DM) := by
  obtain ⟨fI, fdI, gI, kI, bI, GI⟩ := DO
  obtain ⟨tM, hM⟩ := hM
  refine F.okX sc_Office_add (fun vs H Q E h => ?_) (fun cdv A outer s H vs Q E hr h => ?_)
  · obtain ⟨o, v, od, S, rfl, _⟩ := h
    rfl
  · obtain ⟨o, v, od, S, rfl, A, hv, hc, q1, q2⟩ := h
    have hr2 : Room 2 _ := hr.mono (by decide)
    refine ⟨_, pss_cons (ps_if (pt_not (pt_val (pe_call GI hr (by rfl) gI kI bI .nil pass0 (pa_cons (pe_fld (pe_fld (pv 0) rfl) rfl) (pa_cons (pe_fld (pe_fld (pv 0) rfl) rfl) (pa_cons (pv 1) pa_nil)))))) (pss_one (ps_raise rfl (takes_of rfl rfl rfl rfl) (pmk_err ERI (by rfl)))) pss_nil)
      (pss_cons (ps_set (i := 2) sc_Office_add.nd rfl (.inl rfl) (pe_prop (pv 0) T.cl pO GP hr2 bP .nil pass0 rfl))
      (pss_cons (ps_if (pt_cmpR op_eq (pe_callB call_len_seq (by rfl) B.len PySem.boot_len (pa_cons (pv 2) pa_nil)) (pe_glob (v := .int 20) rfl hM ⟨_, rfl⟩) (nomark _)) (pss_one (ps_raise rfl (takes_of rfl rfl rfl rfl) (pmk_err ERM (by rfl)))) pss_nil)
      (pss_cons ps_never (pss_one ps_never)))), ?_⟩
    obtain ⟨dx, fs, u, vs, ho, R, hu, hPv, he, N, no⟩ := id A
    obtain ⟨dxn, fl, as, _, hx, _⟩ := id N
    rcases hc with hb | ⟨hod, h20⟩
    · refine ⟨_, rfl, o, O, dx, fs, _, rfl, ho, T.cl, T.nN, R.net, S.x, C, dxn, _, _, rfl, hx, TN.cl, TN.nP, nf_pe, _, rfl, o, O, dx, fs, _, rfl, ho, T.cl, T.nN, R.net, S.x, C, dxn, _, _, rfl, hx, TN.cl, TN.nH, nf_ho, _, rfl, v, _, _, _, rfl, hv.likeB, _, rfl, ?_⟩
      rw [hb]
      exact iteT (q1 hb)
    · refine ⟨_, rfl, o, O, dx, fs, _, rfl, ho, T.cl, T.nN, R.net, S.x, C, dxn, _, _, rfl, hx, TN.cl, TN.nP, nf_pe, _, rfl, o, O, dx, fs, _, rfl, ho, T.cl, T.nN, R.net, S.x, C, dxn, _, _, rfl, hx, TN.cl, TN.nH, nf_ho, _, rfl, v, _, _, true, rfl, OrdAt.like hod hv, _, rfl, iteF ?_⟩
      refine ⟨_, rfl, o, dx, fs, rfl, ho, o, S, rfl, A, fun t hO => ?_⟩
      obtain ⟨ts, ht, hP⟩ := id hO
      have tl := hP.length
      refine ⟨_, rfl, t, ts, rfl, .inr (SqT.of ht), rfl, _, rfl, ?_⟩
      rw [show decide (V.int ((ts.length : Nat) : Int) = V.int 20) = true from decide_eq_true (by rw [tl, h20]; rfl)]
      exact iteT (q2 hod h20)
theorem ok_cancelX {f O C pP fP D fI : Addr} {fd fdP fdI : FuncData} (F : Fun K "cancel" "Office.cancel" s_Office_cancel f fd) (T : OffT K O) (pO : PropOf K O "present_orders" pP fP) (GP : FnOk P w K mg base CX0 1 fP fdP P_Office_present_orders (spPres O C)) (bP : Binds K fdP P_Office_present_orders [])
    (gI : mg "check_index" = some (.ref fI)) (kI : PySem.W.keepIn K (.ref fI) = true) (bI : Binds K fdI P_check_index []) (GI : FnOk P w K mg base (L2.CX P w) 3 fI fdI P_check_index (spChkIxX D)) : FnOk P w K mg base (L2.CX P w) 4 f fd P_Office_cancel (spIxX O C D) := by
  refine F.okX sc_Office_cancel (fun vs H Q E h => ?_) (fun cdv A outer s H vs Q E hr h => ?_)
  · obtain ⟨o, i, S, rfl, _⟩ := h
    rfl
  · obtain ⟨o, i, S, rfl, A, hi, q⟩ := h
    have hr2 : Room 2 _ := hr.mono (by decide)
    refine ⟨_, pss_cons (ps_set (i := 2) sc_Office_cancel.nd rfl (.inl rfl) (pe_prop (pv 0) T.cl pO GP hr2 bP .nil pass0 rfl))
      (pss_cons (ps_expr (pe_call (E := E) GI hr (by rfl) gI kI bI .nil (passes_call (takes_of rfl rfl rfl rfl) fun _ _ _ _ z => z) (pa_cons (pv 2) (pa_cons (pv 1) pa_nil))))
      (pss_cons ps_never (pss_one ps_never))), ?_⟩
    obtain ⟨dx, fs, u, vs, ho, R, _⟩ := id A
    refine ⟨_, rfl, o, dx, fs, rfl, ho, o, S, rfl, A, fun t hO => ?_⟩
    obtain ⟨ts, ht, hP⟩ := id hO
    exact ⟨_, rfl, _, rfl, t, i, ts, rfl, ht, by rw [hP.length]; exact hi, q⟩
theorem ok_raiseX {f O C pP fP D fI : Addr} {fd fdP fdI : FuncData} (F : Fun K "raise_order" "Office.raise_order" s_Office_raise_order f fd) (T : OffT K O) (pO : PropOf K O "present_orders" pP fP) (GP : FnOk P w K mg base CX0 1 fP fdP P_Office_present_orders (spPres O C)) (bP : Binds K fdP P_Office_present_orders [])
    (gI : mg "check_index" = some (.ref fI)) (kI : PySem.W.keepIn K (.ref fI) = true) (bI : Binds K fdI P_check_index []) (GI : FnOk P w K mg base (L2.CX P w) 3 fI fdI P_check_index (spChkIxX D)) : FnOk P w K mg base (L2.CX P w) 4 f fd P_Office_raise_order (spIxX O C D) := by
  refine F.okX sc_Office_raise_order (fun vs H Q E h => ?_) (fun cdv A outer s H vs Q E hr h => ?_)
  · obtain ⟨o, i, S, rfl, _⟩ := h
    rfl
  · obtain ⟨o, i, S, rfl, A, hi, q⟩ := h
    have hr2 : Room 2 _ := hr.mono (by decide)
    refine ⟨_, pss_cons (ps_set (i := 2) sc_Office_raise_order.nd rfl (.inl rfl) (pe_prop (pv 0) T.cl pO GP hr2 bP .nil pass0 rfl))
      (pss_cons (ps_expr (pe_call (E := E) GI hr (by rfl) gI kI bI .nil (passes_call (takes_of rfl rfl rfl rfl) fun _ _ _ _ z => z) (pa_cons (pv 2) (pa_cons (pv 1) pa_nil))))
      (pss_one ps_never)), ?_⟩
    obtain ⟨dx, fs, u, vs, ho, R, _⟩ := id A
    refine ⟨_, rfl, o, dx, fs, rfl, ho, o, S, rfl, A, fun t hO => ?_⟩
    obtain ⟨ts, ht, hP⟩ := id hO
    exact ⟨_, rfl, _, rfl, t, i, ts, rfl, ht, by rw [hP.length]; exact hi, q⟩
theorem ok_prolongX {f O C pP fP D DI fI : Addr} {fd fdP fdI : FuncData} (F : Fun K "prolong" "Office.prolong" s_Office_prolong f fd) (T : OffT K O) (TN : NetT K C) (ERI : ErrR K mg "InvalidOrder" DI) (pO : PropOf K O "present_orders" pP fP) (GP : FnOk P w K mg base CX0 1 fP fdP P_Office_present_orders (spPres O C)) (bP : Binds K fdP P_Office_present_orders [])
    (gI : mg "check_index" = some (.ref fI)) (kI : PySem.W.keepIn K (.ref fI) = true) (bI : Binds K fdI P_check_index []) (GI0 : FnOk P w K mg base CX0 3 fI fdI P_check_index spChkIx) (GIX : FnOk P w K mg base (L2.CX P w) 3 fI fdI P_check_index (spChkIxX D))
    (DO : Df P w K mg base "is_order" 3 P_is_order (spIsOrder K)) : FnOk P w K mg base (L2.CX P w) 4 f fd P_Office_prolong (spProlongX O C D DI) := by
  obtain ⟨fO, fdO, gO, kO, bO, GO⟩ := DO
  have GI := FnOk.or (FnOk.up GI0) GIX
  refine F.okX sc_Office_prolong (fun vs H Q E h => ?_) (fun cdv A outer s H vs Q E hr h => ?_)
  · obtain ⟨o, i, n, S, rfl, _⟩ := h
    rfl
  · obtain ⟨o, i, n, S, rfl, A, hc⟩ := h
    have hr2 : Room 2 _ := hr.mono (by decide)
    refine ⟨_, pss_cons (ps_set (i := 3) sc_Office_prolong.nd rfl (.inl rfl) (pe_prop (pv 0) T.cl pO GP hr2 bP .nil pass0 rfl))
      (pss_cons (ps_expr (pe_call (E := E) GI hr (by rfl) gI kI bI .nil (passes_call (takes_of rfl rfl rfl rfl) fun _ _ _ _ z => z) (pa_cons (pv 3) (pa_cons (pv 1) pa_nil))))
      (pss_cons (ps_asg (pe_ix ix_tup (pv 3) (pv 1) (fun _ _ => rfl)) (pg_tup (by rfl) (pgs_cons (pg_name (i := 4) sc_Office_prolong.nd rfl (.inl rfl)) (pgs_cons (pg_name (i := 5) sc_Office_prolong.nd rfl (.inl rfl)) (pgs_cons (pg_name (i := 6) sc_Office_prolong.nd rfl (.inl rfl)) (pgs_cons (pg_name (i := 7) sc_Office_prolong.nd rfl (.inl rfl)) (pgs_cons (pg_name (i := 8) sc_Office_prolong.nd rfl (.inl rfl)) pgs_nil)))))))
      (pss_cons (ps_set (i := 9) sc_Office_prolong.nd rfl (.inl rfl) (pe_tup (pa_cons (pv 4) (pa_cons (pv 5) (pa_cons (pv 6) (pa_cons (pv 2) (pa_cons (pv 8) pa_nil)))))))
      (pss_cons (ps_if (pt_not (pt_val (pe_call GO hr (by rfl) gO kO bO .nil pass0 (pa_cons (pe_fld (pe_fld (pv 0) rfl) rfl) (pa_cons (pe_fld (pe_fld (pv 0) rfl) rfl) (pa_cons (pv 9) pa_nil)))))) (pss_one (ps_raise rfl (takes_of rfl rfl rfl rfl) (pmk_err ERI (by rfl)))) pss_nil)
      (pss_cons ps_never (pss_one ps_never)))))), ?_⟩
    obtain ⟨dx, fs, u, vs, ho, R, hu, hPv, he, N, no⟩ := id A
    obtain ⟨dxn, fl, as, _, hx, _⟩ := id N
    refine ⟨_, rfl, o, dx, fs, rfl, ho, o, S, rfl, A, fun t hO => ?_⟩
    obtain ⟨ts, ht, hP⟩ := id hO
    have tl := hP.length
    rcases hc with ⟨hi, q⟩ | ⟨k, od, rfl, hk, hb, q⟩
    · exact ⟨_, rfl, _, rfl, .inr ⟨t, i, ts, rfl, ht, by rw [tl]; exact hi, q⟩⟩
    · have lt : k < S.cur.length := (List.getElem?_eq_some_iff.mp hk).1
      refine ⟨_, rfl, _, rfl, .inl ⟨t, k, ts, rfl, ht, by omega, ?_⟩⟩
      obtain ⟨v, hv, u0, rfl, hu0⟩ := Paired.get? (i := k) hP hk
      refine ⟨_, rfl, _, rfl, t, ts, k, _, rfl, rfl, SqT.of ht, atI_nat (j := k) hv, ?_⟩
      refine ⟨u0, _, rfl, SqT.of hu0, rfl, _, _, rfl, _, _, rfl, _, _, rfl, _, _, rfl, _, _, rfl, rfl, ?_⟩
      refine ⟨_, rfl, _, rfl, _, rfl, _, rfl, _, rfl, (by show 5 ≤ sizeLine; decide), fun u1 nu1 => ?_⟩
      have s1 := same_upd (o := HO.tup [.int od.s, .int od.t, .int od.f, .int n, .int od.e]) nu1
      have hv1 : OrdAt (upd H u1 (.tup [.int od.s, .int od.t, .int od.f, .int n, .int od.e])) (.ref u1) (proO od n) := ⟨u1, rfl, upd_same⟩
      refine ⟨_, rfl, o, O, dx, fs, _, rfl, s1 _ _ ho, T.cl, T.nN, R.net, S.x, C, dxn, _, _, rfl, s1 _ _ hx, TN.cl, TN.nP, nf_pe, _, rfl, o, O, dx, fs, _, rfl, s1 _ _ ho, T.cl, T.nN, R.net, S.x, C, dxn, _, _, rfl, s1 _ _ hx, TN.cl, TN.nH, nf_ho, _, rfl, _, _, _, _, rfl, hv1.likeB, _, rfl, ?_⟩
      rw [hb]
      exact iteT (q _ s1)
end
/-! ### operations as a law draws them, and what an office does with them -/
inductive OpI where
  | add (od : Od)
  | cancel (i : Int)
  | prolong (i : Int) (n : Nat)
  | rais (i : Int)
  | undo
  | redo
def OpIAt (H : Hp) (a : Addr) : OpI → Prop
  | .add od => ∃ v, H a = some (.tup [.str "add", v]) ∧ OrdAt H v od
  | .cancel i => H a = some (.tup [.str "cancel", .int i])
  | .prolong i n => H a = some (.tup [.str "prolong", .int i, .int n])
  | .rais i => H a = some (.tup [.str "raise", .int i])
  | .undo => H a = some (.tup [.str "undo"])
  | .redo => H a = some (.tup [.str "redo"])
theorem OpIAt.keep {H H' : Hp} {a : Addr} {op : OpI} (k : TupKeep H H') (h : OpIAt H a op) : OpIAt H' a op := by
  cases op with
  | add od => obtain ⟨v, h1, h2⟩ := h; exact ⟨v, k _ _ h1, h2.keep k⟩
  | cancel i => exact k _ _ h
  | prolong i n => exact k _ _ h
  | rais i => exact k _ _ h
  | undo => exact k _ _ h
  | redo => exact k _ _ h
def OpI.toN : OpI → Opn
  | .add od => .add od
  | .cancel i => .cancel i.toNat
  | .prolong i n => .prolong i.toNat n
  | .rais i => .rais i.toNat
  | .undo => .undo
  | .redo => .redo
def inIx (i : Int) (l : List Od) : Prop := 0 ≤ i ∧ i < l.length
instance {i : Int} {l : List Od} : Decidable (inIx i l) := inferInstanceAs (Decidable (_ ∧ _))
/-- the number of the error of an operation, or none -/
def errI (p : Nat) (cur : List Od) : OpI → Option Nat
  | .add od => if p < od.n then some 4 else if cur.length = 20 then some 5 else none
  | .cancel i => if inIx i cur then none else some 2
  | .prolong i n => if inIx i cur then (if 1 ≤ n ∧ n ≤ p then none else some 4) else some 2
  | .rais i => if inIx i cur then none else some 2
  | .undo => none
  | .redo => none
def OpWf (p h : Nat) : OpI → Prop
  | .add od => od.s < h ∧ od.t < h ∧ od.s ≠ od.t ∧ od.f < p ∧ 1 ≤ od.n ∧ od.n ≤ p + 1 ∧ 1 ≤ od.e ∧ od.e ≤ 9
  | .prolong _ n => n ≤ p + 1
  | _ => True
def spDo (O C : Addr) : Sp := fun vs H Q _ => ∃ (o a : Addr) (op : OpI) (S : OffS), vs = [.ref o, .ref a] ∧ OffAt O C H o S ∧ S.st.length ≤ 900 ∧ OpIAt H a op ∧ OpnOk S op.toN ∧ (∀ i, op = .cancel i ∨ op = .rais i → 0 ≤ i) ∧ (∀ i n, op = .prolong i n → 0 ≤ i) ∧
  ∀ H' v, But o H H' → OffAt O C H' o (nextO S op.toN) → ResO H' v S op.toN → Q v H'
def spDoX (O C : Addr) (cE : Nat → Addr) : Sp := fun vs H _ E => ∃ (o a : Addr) (op : OpI) (S : OffS) (i : Nat), vs = [.ref o, .ref a] ∧ OffAt O C H o S ∧ NetOk S.p S.h S.cur ∧ OpIAt H a op ∧ OpWf S.p S.h op ∧ errI S.p S.cur op = some i ∧ ∀ H', Same H H' → E (.ref (cE i)) none H'
theorem orderB_bad {p h : Nat} {od : Od} (hn : ¬ (1 ≤ od.n ∧ od.n ≤ p)) : orderB p h od.vs = false := by
  have e : withinB (.int (od.n : Nat)) 1 (p : Int) = false := by
    show (decide ((1 : Int) ≤ (od.n : Nat)) && decide (((od.n : Nat) : Int) ≤ (p : Int))) = false
    by_cases c : 1 ≤ od.n
    · rw [decide_eq_false (show ¬ ((od.n : Nat) : Int) ≤ (p : Int) by omega), Bool.and_false]
    · rw [decide_eq_false (show ¬ (1 : Int) ≤ ((od.n : Nat) : Int) by omega), Bool.false_and]
  show (_ && (_ && (_ && (_ && (withinB (.int (od.n : Nat)) 1 (p : Int) && _))))) = false
  rw [e, Bool.false_and, Bool.and_false, Bool.and_false, Bool.and_false, Bool.and_false]
theorem orderB_n {p h : Nat} {od : Od} (hn : p < od.n) : orderB p h od.vs = false := orderB_bad (by omega)
/-! ### what an office raises, told with the error's context -/
section
open PySem.Spec PyProof.Rows
theorem pmk_errN {X : Cx} {x m : Str} {j : Nat} {p p2 pos : Pos} {D : Addr} (E : ErrR X.K X.mg x D) (hg : Gl X x) (hdb : (x == ("__debug__" : Str)) = false := by decide) : L2N.PMk X (.Call (.Name x p) [.Constant (.str m) j p2] [] pos) (fun _ H Q => Q (.ref D) none H) :=
  L2N.pmk_own PySem.F.excBase_ValueError E.x E.g E.k (raises_own E.b E.t) hg hdb
theorem okN {P : Program} {w : World} {K : PySem.W.Frag} {mg : Str → Option Value} {base : Heap} {x qual : Str} {st : Stmt} {f : Addr} {fd : FuncData} {N ps : List Str} {k : Nat} {sp : Sp} (F : Fun K x qual st f fd) (S : FnScope N ps (defScope st)) (len : ∀ vs H Q E, sp vs H Q E → vs.length = ps.length)
    (hbody : ∀ (cdv : Value) (A : Around) (outer : List Env) (s : Shared) (H : Hp) (vs : List V) (Q : VK) (E : XK), Room k (A.deeper (PyProof.Rows.envOfC qual (defScope st) s.heap.objs.size f cdv)) → sp vs H Q E →
      ∃ t, PSs (cxOf (L2N.CX P w) P w K mg base N qual (defScope st) f cdv A outer s H E) (defBody st) t ∧ t { nx := fun _ H' => Q .non H', rt := Q } (L2.start N vs) H) : FnOk P w K mg base (L2N.CX P w) (k + 1) f fd ps sp := by
  obtain ⟨oc, od, kV, doc, pm, an, cdv, ct, osl, rfl, lk, hcd⟩ := F.ex
  exact fn_of lk hcd S len fun A outer s H vs Q E hr hsp => hbody cdv A outer s H vs Q E hr hsp
end
section
variable {P : Program} {w : World} {K : PySem.W.Frag} {mg : Str → Option Value} {base : Heap}
theorem upN {k : Nat} {f : Addr} {fd : FuncData} {ps : List Str} {sp : Sp} (F : FnOk P w K mg base CX0 k f fd ps sp) : FnOk P w K mg base (L2N.CX P w) k f fd ps sp :=
  ⟨F.len, fun A outer s H args us vs Q E hr he hb hv hs => PySem.codeAny_mono (F.run A outer s H args us vs Q E hr he hb hv hs) fun r s' h => by
    cases r with
    | ok z => cases z <;> exact h
    | error e => exact False.elim h⟩
theorem ok_chk_ixN {f D : Addr} {fd : FuncData} (F : Fun K "check_index" "check_index" s_check_index f fd) (B : Blt mg) (ER : ErrR K mg "UnknownOrder" D) (DW : Df P w K mg base "is_within" 2 P_is_within (spWithin K)) : FnOk P w K mg base (L2N.CX P w) 3 f fd P_check_index (spChkIxX D) := by
  obtain ⟨fW, fdW, gW, kW, bW, GW⟩ := DW
  refine okN F sc_check_index (fun vs H Q E h => ?_) (fun cdv A outer s H vs Q E hr h => ?_)
  · obtain ⟨t, i, ts, rfl, _⟩ := h
    rfl
  · obtain ⟨t, i, ts, rfl, ht, hk, q⟩ := h
    refine ⟨_, pss_one (ps_if (pt_not (pt_val (pe_call GW hr (by rfl) gW kW bW .nil pass0 (pa_cons (pv 1) (pa_cons pe_int (pa_cons (pe_op op_sub (pe_callB call_len_seq (by rfl) B.len PySem.boot_len (pa_cons (pv 0) pa_nil)) pe_int) pa_nil)))))) (pss_one (L2N.ps_raise rfl (L2N.takes_of rfl rfl rfl rfl) (pmk_errN ER (by rfl)))) pss_nil), ?_⟩
    refine ⟨_, rfl, _, rfl, t, _, rfl, .inr (SqT.of ht), _, _, rfl, rfl, _, 0, ((ts.length : Int) - 1), rfl, .int, _, rfl, ?_⟩
    rw [show withinB (.int i) 0 ((ts.length : Int) - 1) = false by
      show (decide ((0 : Int) ≤ i) && decide (i ≤ (ts.length : Int) - 1)) = false
      by_cases c : 0 ≤ i
      · rw [decide_eq_true c, decide_eq_false (by omega)]
        rfl
      · rw [decide_eq_false c]
        rfl]
    exact iteT q
theorem ok_addN {f O C pP fP DI DM : Addr} {fd fdP : FuncData} (F : Fun K "add" "Office.add" s_Office_add f fd) (B : Blt mg) (T : OffT K O) (TN : NetT K C) (ERI : ErrR K mg "InvalidOrder" DI) (ERM : ErrR K mg "TooManyOrders" DM) (pO : PropOf K O "present_orders" pP fP) (GP : FnOk P w K mg base CX0 1 fP fdP P_Office_present_orders (spPres O C)) (bP : Binds K fdP P_Office_present_orders [])
    (DO : Df P w K mg base "is_order" 3 P_is_order (spIsOrder K)) (hM : ∃ t, mg "MOST_ORDERS" = some (.int 20 t)) : FnOk P w K mg base (L2N.CX P w) 4 f fd P_Office_add (spAddX O C DI DM) := by
  obtain ⟨fI, fdI, gI, kI, bI, GI⟩ := DO
  obtain ⟨tM, hM⟩ := hM
  refine okN F sc_Office_add (fun vs H Q E h => ?_) (fun cdv A outer s H vs Q E hr h => ?_)
  · obtain ⟨o, v, od, S, rfl, _⟩ := h
    rfl
  · obtain ⟨o, v, od, S, rfl, A, hv, hc, q1, q2⟩ := h
    have hr2 : Room 2 _ := hr.mono (by decide)
    refine ⟨_, pss_cons (ps_if (pt_not (pt_val (pe_call GI hr (by rfl) gI kI bI .nil pass0 (pa_cons (pe_fld (pe_fld (pv 0) rfl) rfl) (pa_cons (pe_fld (pe_fld (pv 0) rfl) rfl) (pa_cons (pv 1) pa_nil)))))) (pss_one (L2N.ps_raise rfl (L2N.takes_of rfl rfl rfl rfl) (pmk_errN ERI (by rfl)))) pss_nil)
      (pss_cons (ps_set (i := 2) sc_Office_add.nd rfl (.inl rfl) (pe_prop (pv 0) T.cl pO GP hr2 bP .nil pass0 rfl))
      (pss_cons (ps_if (pt_cmpR op_eq (pe_callB call_len_seq (by rfl) B.len PySem.boot_len (pa_cons (pv 2) pa_nil)) (pe_glob (v := .int 20) rfl hM ⟨_, rfl⟩) (nomark _)) (pss_one (L2N.ps_raise rfl (L2N.takes_of rfl rfl rfl rfl) (pmk_errN ERM (by rfl)))) pss_nil)
      (pss_cons ps_never (pss_one ps_never)))), ?_⟩
    obtain ⟨dx, fs, u, vs, ho, R, hu, hPv, he, N, no⟩ := id A
    obtain ⟨dxn, fl, as, _, hx, _⟩ := id N
    rcases hc with hb | ⟨hod, h20⟩
    · refine ⟨_, rfl, o, O, dx, fs, _, rfl, ho, T.cl, T.nN, R.net, S.x, C, dxn, _, _, rfl, hx, TN.cl, TN.nP, nf_pe, _, rfl, o, O, dx, fs, _, rfl, ho, T.cl, T.nN, R.net, S.x, C, dxn, _, _, rfl, hx, TN.cl, TN.nH, nf_ho, _, rfl, v, _, _, _, rfl, hv.likeB, _, rfl, ?_⟩
      rw [hb]
      exact iteT (q1 hb)
    · refine ⟨_, rfl, o, O, dx, fs, _, rfl, ho, T.cl, T.nN, R.net, S.x, C, dxn, _, _, rfl, hx, TN.cl, TN.nP, nf_pe, _, rfl, o, O, dx, fs, _, rfl, ho, T.cl, T.nN, R.net, S.x, C, dxn, _, _, rfl, hx, TN.cl, TN.nH, nf_ho, _, rfl, v, _, _, true, rfl, OrdAt.like hod hv, _, rfl, iteF ?_⟩
      refine ⟨_, rfl, o, dx, fs, rfl, ho, o, S, rfl, A, fun t hO => ?_⟩
      obtain ⟨ts, ht, hP⟩ := id hO
      have tl := hP.length
      refine ⟨_, rfl, t, ts, rfl, .inr (SqT.of ht), rfl, _, rfl, ?_⟩
      rw [show decide (V.int ((ts.length : Nat) : Int) = V.int 20) = true from decide_eq_true (by rw [tl, h20]; rfl)]
      exact iteT (q2 hod h20)
theorem ok_cancelN {f O C pP fP D fI : Addr} {fd fdP fdI : FuncData} (F : Fun K "cancel" "Office.cancel" s_Office_cancel f fd) (T : OffT K O) (pO : PropOf K O "present_orders" pP fP) (GP : FnOk P w K mg base CX0 1 fP fdP P_Office_present_orders (spPres O C)) (bP : Binds K fdP P_Office_present_orders [])
    (gI : mg "check_index" = some (.ref fI)) (kI : PySem.W.keepIn K (.ref fI) = true) (bI : Binds K fdI P_check_index []) (GI : FnOk P w K mg base (L2N.CX P w) 3 fI fdI P_check_index (spChkIxX D)) : FnOk P w K mg base (L2N.CX P w) 4 f fd P_Office_cancel (spIxX O C D) := by
  refine okN F sc_Office_cancel (fun vs H Q E h => ?_) (fun cdv A outer s H vs Q E hr h => ?_)
  · obtain ⟨o, i, S, rfl, _⟩ := h
    rfl
  · obtain ⟨o, i, S, rfl, A, hi, q⟩ := h
    have hr2 : Room 2 _ := hr.mono (by decide)
    refine ⟨_, pss_cons (ps_set (i := 2) sc_Office_cancel.nd rfl (.inl rfl) (pe_prop (pv 0) T.cl pO GP hr2 bP .nil pass0 rfl))
      (pss_cons (ps_expr (pe_call (E := E) GI hr (by rfl) gI kI bI .nil (L2N.passes_call (L2N.takes_of rfl rfl rfl rfl) fun _ _ _ _ z => z) (pa_cons (pv 2) (pa_cons (pv 1) pa_nil))))
      (pss_cons ps_never (pss_one ps_never))), ?_⟩
    obtain ⟨dx, fs, u, vs, ho, R, _⟩ := id A
    refine ⟨_, rfl, o, dx, fs, rfl, ho, o, S, rfl, A, fun t hO => ?_⟩
    obtain ⟨ts, ht, hP⟩ := id hO
    exact ⟨_, rfl, _, rfl, t, i, ts, rfl, ht, by rw [hP.length]; exact hi, q⟩
theorem ok_raiseN {f O C pP fP D fI : Addr} {fd fdP fdI : FuncData} (F : Fun K "raise_order" "Office.raise_order" s_Office_raise_order f fd) (T : OffT K O) (pO : PropOf K O "present_orders" pP fP) (GP : FnOk P w K mg base CX0 1 fP fdP P_Office_present_orders (spPres O C)) (bP : Binds K fdP P_Office_present_orders [])
    (gI : mg "check_index" = some (.ref fI)) (kI : PySem.W.keepIn K (.ref fI) = true) (bI : Binds K fdI P_check_index []) (GI : FnOk P w K mg base (L2N.CX P w) 3 fI fdI P_check_index (spChkIxX D)) : FnOk P w K mg base (L2N.CX P w) 4 f fd P_Office_raise_order (spIxX O C D) := by
  refine okN F sc_Office_raise_order (fun vs H Q E h => ?_) (fun cdv A outer s H vs Q E hr h => ?_)
  · obtain ⟨o, i, S, rfl, _⟩ := h
    rfl
  · obtain ⟨o, i, S, rfl, A, hi, q⟩ := h
    have hr2 : Room 2 _ := hr.mono (by decide)
    refine ⟨_, pss_cons (ps_set (i := 2) sc_Office_raise_order.nd rfl (.inl rfl) (pe_prop (pv 0) T.cl pO GP hr2 bP .nil pass0 rfl))
      (pss_cons (ps_expr (pe_call (E := E) GI hr (by rfl) gI kI bI .nil (L2N.passes_call (L2N.takes_of rfl rfl rfl rfl) fun _ _ _ _ z => z) (pa_cons (pv 2) (pa_cons (pv 1) pa_nil))))
      (pss_one ps_never)), ?_⟩
    obtain ⟨dx, fs, u, vs, ho, R, _⟩ := id A
    refine ⟨_, rfl, o, dx, fs, rfl, ho, o, S, rfl, A, fun t hO => ?_⟩
    obtain ⟨ts, ht, hP⟩ := id hO
    exact ⟨_, rfl, _, rfl, t, i, ts, rfl, ht, by rw [hP.length]; exact hi, q⟩
theorem ok_prolongN {f O C pP fP D DI fI : Addr} {fd fdP fdI : FuncData} (F : Fun K "prolong" "Office.prolong" s_Office_prolong f fd) (T : OffT K O) (TN : NetT K C) (ERI : ErrR K mg "InvalidOrder" DI) (pO : PropOf K O "present_orders" pP fP) (GP : FnOk P w K mg base CX0 1 fP fdP P_Office_present_orders (spPres O C)) (bP : Binds K fdP P_Office_present_orders [])
    (gI : mg "check_index" = some (.ref fI)) (kI : PySem.W.keepIn K (.ref fI) = true) (bI : Binds K fdI P_check_index []) (GI0 : FnOk P w K mg base CX0 3 fI fdI P_check_index spChkIx) (GIX : FnOk P w K mg base (L2N.CX P w) 3 fI fdI P_check_index (spChkIxX D))
    (DO : Df P w K mg base "is_order" 3 P_is_order (spIsOrder K)) : FnOk P w K mg base (L2N.CX P w) 4 f fd P_Office_prolong (spProlongX O C D DI) := by
  obtain ⟨fO, fdO, gO, kO, bO, GO⟩ := DO
  have GI := FnOk.or (upN GI0) GIX
  refine okN F sc_Office_prolong (fun vs H Q E h => ?_) (fun cdv A outer s H vs Q E hr h => ?_)
  · obtain ⟨o, i, n, S, rfl, _⟩ := h
    rfl
  · obtain ⟨o, i, n, S, rfl, A, hc⟩ := h
    have hr2 : Room 2 _ := hr.mono (by decide)
    refine ⟨_, pss_cons (ps_set (i := 3) sc_Office_prolong.nd rfl (.inl rfl) (pe_prop (pv 0) T.cl pO GP hr2 bP .nil pass0 rfl))
      (pss_cons (ps_expr (pe_call (E := E) GI hr (by rfl) gI kI bI .nil (L2N.passes_call (L2N.takes_of rfl rfl rfl rfl) fun _ _ _ _ z => z) (pa_cons (pv 3) (pa_cons (pv 1) pa_nil))))
      (pss_cons (ps_asg (pe_ix ix_tup (pv 3) (pv 1) (fun _ _ => rfl)) (pg_tup (by rfl) (pgs_cons (pg_name (i := 4) sc_Office_prolong.nd rfl (.inl rfl)) (pgs_cons (pg_name (i := 5) sc_Office_prolong.nd rfl (.inl rfl)) (pgs_cons (pg_name (i := 6) sc_Office_prolong.nd rfl (.inl rfl)) (pgs_cons (pg_name (i := 7) sc_Office_prolong.nd rfl (.inl rfl)) (pgs_cons (pg_name (i := 8) sc_Office_prolong.nd rfl (.inl rfl)) pgs_nil)))))))
      (pss_cons (ps_set (i := 9) sc_Office_prolong.nd rfl (.inl rfl) (pe_tup (pa_cons (pv 4) (pa_cons (pv 5) (pa_cons (pv 6) (pa_cons (pv 2) (pa_cons (pv 8) pa_nil)))))))
      (pss_cons (ps_if (pt_not (pt_val (pe_call GO hr (by rfl) gO kO bO .nil pass0 (pa_cons (pe_fld (pe_fld (pv 0) rfl) rfl) (pa_cons (pe_fld (pe_fld (pv 0) rfl) rfl) (pa_cons (pv 9) pa_nil)))))) (pss_one (L2N.ps_raise rfl (L2N.takes_of rfl rfl rfl rfl) (pmk_errN ERI (by rfl)))) pss_nil)
      (pss_cons ps_never (pss_one ps_never)))))), ?_⟩
    obtain ⟨dx, fs, u, vs, ho, R, hu, hPv, he, N, no⟩ := id A
    obtain ⟨dxn, fl, as, _, hx, _⟩ := id N
    refine ⟨_, rfl, o, dx, fs, rfl, ho, o, S, rfl, A, fun t hO => ?_⟩
    obtain ⟨ts, ht, hP⟩ := id hO
    have tl := hP.length
    rcases hc with ⟨hi, q⟩ | ⟨k, od, rfl, hk, hb, q⟩
    · exact ⟨_, rfl, _, rfl, .inr ⟨t, i, ts, rfl, ht, by rw [tl]; exact hi, q⟩⟩
    · have lt : k < S.cur.length := (List.getElem?_eq_some_iff.mp hk).1
      refine ⟨_, rfl, _, rfl, .inl ⟨t, k, ts, rfl, ht, by omega, ?_⟩⟩
      obtain ⟨v, hv, u0, rfl, hu0⟩ := Paired.get? (i := k) hP hk
      refine ⟨_, rfl, _, rfl, t, ts, k, _, rfl, rfl, SqT.of ht, atI_nat (j := k) hv, ?_⟩
      refine ⟨u0, _, rfl, SqT.of hu0, rfl, _, _, rfl, _, _, rfl, _, _, rfl, _, _, rfl, _, _, rfl, rfl, ?_⟩
      refine ⟨_, rfl, _, rfl, _, rfl, _, rfl, _, rfl, (by show 5 ≤ sizeLine; decide), fun u1 nu1 => ?_⟩
      have s1 := same_upd (o := HO.tup [.int od.s, .int od.t, .int od.f, .int n, .int od.e]) nu1
      have hv1 : OrdAt (upd H u1 (.tup [.int od.s, .int od.t, .int od.f, .int n, .int od.e])) (.ref u1) (proO od n) := ⟨u1, rfl, upd_same⟩
      refine ⟨_, rfl, o, O, dx, fs, _, rfl, s1 _ _ ho, T.cl, T.nN, R.net, S.x, C, dxn, _, _, rfl, s1 _ _ hx, TN.cl, TN.nP, nf_pe, _, rfl, o, O, dx, fs, _, rfl, s1 _ _ ho, T.cl, T.nN, R.net, S.x, C, dxn, _, _, rfl, s1 _ _ hx, TN.cl, TN.nH, nf_ho, _, rfl, _, _, _, _, rfl, hv1.likeB, _, rfl, ?_⟩
      rw [hb]
      exact iteT (q _ s1)
end
/-! ### snapshots of an office -/
def NameOk (s : Str) : Prop := s.length ≤ 8 ∧ Txt.isascii s = true ∧ Txt.isalpha s = true ∧ Txt.islower s = true
def spIsName : Sp := fun vs H Q _ => ∃ s : Str, vs = [.str s] ∧ NameOk s ∧ Q (.bl true) H
abbrev Snaps := Str → Option (List Stp × Nat)
structure SnAt (p h : Nat) (H : Hp) (sn : Addr) (m : Snaps) (n : Nat) : Prop where
  ex : ∃ kvs : List (Key × V), H sn = some (.dK kvs) ∧ kvs.length ≤ n ∧ ∀ nm, match m nm with
    | none => valV kvs (.inr nm) = none
    | some x => ∃ u2 uu vs, valV kvs (.inr nm) = some (.ref u2) ∧ H u2 = some (.tup [.ref uu, .int x.2]) ∧ H uu = some (.tup vs) ∧ Paired (StepV H) vs x.1 ∧ x.2 ≤ x.1.length
theorem SnAt.keep {p h n : Nat} {H H' : Hp} {sn : Addr} {m : Snaps} (q : SnAt p h H sn m n) (k : TupKeep H H') (d : ∀ o, H sn = some o → H' sn = some o) : SnAt p h H' sn m n := by
  obtain ⟨kvs, h1, h2, h3⟩ := q.ex
  refine ⟨kvs, d _ h1, h2, fun nm => ?_⟩
  have h4 := h3 nm
  cases e : m nm with
  | none =>
    rw [e] at h4
    exact h4
  | some x =>
    rw [e] at h4
    obtain ⟨u2, uu, vs, a1, a2, a3, a4, a5⟩ := h4
    exact ⟨u2, uu, vs, a1, k _ _ a2, k _ _ a3, Paired.mapP a4 fun _ _ z => z.keep k, a5⟩
def setSn (m : Snaps) (nm : Str) (x : List Stp × Nat) : Snaps := fun n => if n = nm then some x else m n
def spSave (O C : Addr) : Sp := fun vs H Q _ => ∃ (o : Addr) (nm : Str) (p h n : Nat) (S : OffS) (m : Snaps), vs = [.ref o, .str nm] ∧ NameOk nm ∧ OffAt O C H o S ∧ SnAt p h H S.sn m n ∧ n ≤ 900 ∧ S.sn ∉ S.F ∧
  ∀ H', But S.sn H H' → OffAt O C H' o S → SnAt p h H' S.sn (setSn m nm (S.st, S.e)) (n + 1) → Q .non H'
def spRestore (O C : Addr) : Sp := fun vs H Q _ => ∃ (o : Addr) (nm : Str) (p h n : Nat) (S : OffS) (m : Snaps) (x : List Stp × Nat), vs = [.ref o, .str nm] ∧ NameOk nm ∧ OffAt O C H o S ∧ SnAt p h H S.sn m n ∧ m nm = some x ∧
  ∀ H', But o H H' → OffAt O C H' o { S with st := x.1, e := x.2 } → Q .non H'
def spRestoreX (O C D : Addr) : Sp := fun vs H _ E => ∃ (o : Addr) (nm : Str) (p h n : Nat) (S : OffS) (m : Snaps), vs = [.ref o, .str nm] ∧ NameOk nm ∧ OffAt O C H o S ∧ SnAt p h H S.sn m n ∧ m nm = none ∧ E (.ref D) none H
/-! ### a new office has no snapshots -/
def spOInit2 (O C : Addr) : Sp := fun vs H Q _ => ∃ (o dx x t : Addr) (p h : Nat) (os : List Od) (F : List Addr) (H0 : Hp), vs = [.ref o, .ref x] ∧ NetAt C H0 x p h os t F ∧ Same H0 H ∧ H0 o = none ∧ H o = some (.ins O dx []) ∧
  ∀ H' sn, Same H0 H' → H0 sn = none → H' sn = some (.dK []) → OffAt O C H' o ⟨x, t, p, h, os, F, [], 0, sn⟩ → Q .non H'
section
variable {P : Program} {w : World} {K : PySem.W.Frag} {mg : Str → Option Value} {base : Heap}
theorem ok_off_init2 {f O C : Addr} {fd : FuncData} (F : Fun K "__init__" "Office.__init__" s_Office_init f fd) (T : OffT K O) : FnOk P w K mg base CX0 1 f fd P_Office_init (spOInit2 O C) := by
  refine F.ok sc_Office_init (fun vs H Q E h => ?_) (fun cdv A outer s H vs Q E hr h => ?_)
  · obtain ⟨o, dx, x, t, p, h, os, F, H0, rfl, _⟩ := h
    rfl
  · obtain ⟨o, dx, x, t, p, h, os, F, H0, rfl, Nt, s0, o0, ho, q⟩ := h
    refine ⟨_, pss_cons (ps_fld (pv 0) (pv 1) rfl) (pss_cons (ps_fld (pv 0) (pe_tup pa_nil) rfl) (pss_cons (ps_fld (pv 0) pe_int rfl) (pss_one (ps_fld (pv 0) pe_dnewK rfl)))), ?_⟩
    refine ⟨_, rfl, _, rfl, o, O, dx, [], rfl, ho, T.cl, T.nN, (by show 0 < 1000; decide), ?_⟩
    refine ⟨(by show 0 ≤ sizeLine; decide), fun u nu => ⟨_, rfl, o, O, dx, putF "net" (.ref x) [], rfl, ?_, T.cl, T.nS, (by show 1 < 1000; decide), ?_⟩⟩
    · rw [upd_ne (fun z => by rw [← z, upd_same] at nu; cases nu), upd_same]
    have nou : o ≠ u := fun z => by
      rw [← z, upd_same] at nu
      cases nu
    have nuH : H u = none := by
      rw [upd_ne (Ne.symm nou)] at nu
      exact nu
    have l1 : (putF "steps" (V.ref u) (putF "net" (V.ref x) [])).length ≤ 2 := length_putF "steps" (V.ref u) (putF "net" (V.ref x) [])
    refine ⟨_, rfl, o, O, dx, _, rfl, upd_same, T.cl, T.nE, by omega, ?_⟩
    have l2 : (putF "effective" (V.int 0) (putF "steps" (V.ref u) (putF "net" (V.ref x) []))).length ≤ 3 := Nat.le_trans (length_putF "effective" (V.int 0) (putF "steps" (V.ref u) (putF "net" (V.ref x) []))) (by omega)
    refine fun d nd => ⟨_, rfl, o, O, dx, _, rfl, (upd_ne (fun z => by rw [← z, upd_same] at nd; cases nd)).trans upd_same, T.cl, T.nP, by omega, ?_⟩
    have nod : o ≠ d := fun z => by
      rw [← z, upd_same] at nd
      cases nd
    have nud : u ≠ d := fun z => by
      rw [← z, upd_ne (Ne.symm nou), upd_ne (Ne.symm nou), upd_same] at nd
      cases nd
    have ndH : H d = none := by
      rw [upd_ne (Ne.symm nod), upd_ne (Ne.symm nod), upd_ne (Ne.symm nud), upd_ne (Ne.symm nod)] at nd
      exact nd
    refine q _ d ?_ (s0.free ndH) ((upd_ne nod.symm).trans upd_same) ?_
    · intro b z e
      have e1 := s0 _ _ e
      have b1 : b ≠ o := ne_of_none e o0
      rw [upd_ne b1, upd_ne (ne_of_none e1 ndH), upd_ne b1, upd_ne b1, upd_ne (ne_of_none e1 nuH), upd_ne b1]
      exact e1
    · refine ⟨dx, _, u, [], upd_same, ofr_new, ?_, .nil, Nat.le_refl _, Nt.same ?_, Nt.new o0⟩
      · rw [upd_ne (Ne.symm nou), upd_ne nud, upd_ne (Ne.symm nou), upd_ne (Ne.symm nou), upd_same]
      · intro b z e
        have e1 := s0 _ _ e
        have b1 : b ≠ o := ne_of_none e o0
        rw [upd_ne b1, upd_ne (ne_of_none e1 ndH), upd_ne b1, upd_ne b1, upd_ne (ne_of_none e1 nuH), upd_ne b1]
        exact e1
end
/-! ### enumerate(xs, start=k), xs a list -/
section
open PyProof.Rows
theorem callWith_tyKw {M : Model} {A : Around} {E : Value → Shared → Prop} {s : Shared} {env : Env} {pos : Pos} {T : String} {e : Expr} {kws : List Keyword} {Q : Value → Shared → Prop}
    (h : wpAny M A (spliced (backTo pos (starEach [e] env))) (fun vs s₁ => wpAny M A (evalAll ((backToKw pos (keywordEach kws env)).map (·.2))) (fun kvs s₂ => wpAny M A (call (.type T) vs (((backToKw pos (keywordEach kws env)).filterMap (·.1)).zip kvs)) Q E s₂) E s₁) E s)
    (h1 : backTo pos (starEach [e] env) = (false, eval e env) :: backTo pos (starEach [] env) := by rfl) (h2 : (backTo pos (starEach [e] env)).any (·.1) = false := by rfl)
    (h3 : (backToKw pos (keywordEach kws env)).all (·.1.isSome) = true := by rfl) (h4 : (backToKw pos (keywordEach kws env)).any (·.1.isNone) = false := by rfl) :
    wpAny M A (callWith pos (.type T) [] (backTo pos (starEach [e] env)) (backToKw pos (keywordEach kws env))) Q E s := by
  have g : wpAny M A (evalArgs (.type T) true (backTo pos (starEach [e] env)) (backToKw pos (keywordEach kws env))) (fun a s₁ => wpAny M A (call (.type T) ([] ++ a.pos) a.kw) Q E s₁) E s := by
    rw [h1] at h ⊢
    unfold evalArgs
    show wpAny M A (spliced ((false, eval e env) :: backTo pos (starEach [] env)) >>= _) _ E s
    refine wpAny_bind (wpAny_mono h (fun vs s1 x => ?_) fun _ _ y => y)
    refine wpAny_holding ?_
    rw [if_pos h3]
    exact wpAny_bind (wpAny_mono x (fun ks s2 y => wpAny_bind (wpAny_pure (wpAny_pure y))) fun _ _ z => z)
  unfold callWith
  refine wpAny_bind (wpAny_holding (wpAny_mono g (fun a s1 x => wpAny_bind (wpAny_standAt ?_)) fun _ _ z => z))
  simp only [h2, h4, Bool.or_false]
  refine wpAny_bind (wpAny_pure ?_)
  exact wpAny_bind (wpAny_mono x (fun r s2 y => wpAny_bind (wpAny_holding (wpAny_point (wpAny_pure y)))) fun _ _ z => z)
/-- the list at a as it stands, each item in a new pair with k more than its number -/
def IteS (K : PySem.W.Frag) (a : Addr) (k : Int) : It :=
  ⟨fun i H => ∃ (xs : List V) (x : V), SqL K H a xs ∧ xs[i]? = some x, fun i H v H' => ∃ T x, v = .ref T ∧ H T = none ∧ H' = L2.upd H T (.tup [.int (k + (i : Nat)), x]) ∧ ∀ xs, SqL K H a xs → xs[i]? = some x, fun i H => ∃ xs : List V, SqL K H a xs ∧ xs.length ≤ i⟩
theorem enumS_turn {P : Program} {w : World} {K : PySem.W.Frag} {elts : List Expr} {kk : Nat} {tpos : Pos} {k : Int} (a e it : Addr) (hai : a ≠ it) (hae : a ≠ e) :
    Turn P w K (.Tuple elts kk tpos) (IteS K a k) [e, it] e (fun i h => (∃ old, IsEnum h e it (k + (i : Nat)) old) ∧ h.IsListIter it a i ∧ e ≠ it) where
  mem := List.mem_cons_self
  obj := fun i h st b hb => by
    obtain ⟨⟨old, q1⟩, ⟨o, q2, _, q3⟩, _⟩ := st
    rcases List.mem_cons.mp hb with z | z
    · rw [z]
      exact ⟨_, q1, fun v q => nomatch q⟩
    · rw [List.mem_singleton.mp z]
      exact ⟨o, q2, fun v q => by rw [q3] at q; cases q⟩
  keep := fun i h h' st kp => by
    obtain ⟨⟨old, q1⟩, ⟨o, q2, r⟩, q4⟩ := st
    exact ⟨⟨old, kp e List.mem_cons_self _ q1⟩, ⟨o, kp it (by simp) o q2, r⟩, q4⟩
  item := by
    rintro X rfl rfl rfl hc i pins s σ H E I hf ⟨⟨old, q1⟩, q2, q3⟩ ⟨xs, x, hq, hx⟩
    obtain ⟨its, rv, p, hz⟩ := I.list hq
    obtain ⟨u, hu, ru⟩ := rv.get hx
    have hel : e < s.heap.objs.size := Heap.lt_size q1
    have hil : it < s.heap.objs.size := by
      obtain ⟨_, q, _⟩ := q2
      exact Heap.lt_size q
    have lsts : s.heap.IsList a its.toArray := p.isList
    have hlt : i < its.toArray.size := by
      have z := (List.getElem?_eq_some_iff.mp hu).1
      simpa using z
    have D : Draws X.prog X.w X.A.in1 it [it, a] its.toArray.size (fun i v => its.toArray[i]? = some v) (fun i h => h.IsListIter it a i ∧ h.IsList a its.toArray) := Draws.list (by exact I.ok.hd hc) it a hai its.toArray
    refine wpAny_pyNext_enum_itemC D q1 ⟨q2, lsts⟩ hlt q3 (by simp [q3, hae.symm]) fun y h' tk hP ho st' hT hsz hk => ?_
    obtain rfl : y = u := by
      have z : its.toArray[i]? = some u := by simpa using hu
      exact Option.some.inj (hP.symm.trans z)
    refine ⟨_, rfl, wpAny_letOwnedTupleGo_enum (s := { s with heap := h', toks := tk + 1 }) ho fun h2 q5 sb => ?_⟩
    have hT2 : h2.get? s.heap.objs.size = some { cls := .type "tuple", data := .seq #[.int (k + (i : Nat)) tk, y] } := (sb.2 _ (Nat.ne_of_gt hel)).trans hT
    have new : ObjOk X.prog X.w (L2.upd H s.heap.objs.size (.tup [.int (k + (i : Nat)), x])) h2 s.heap.objs.size (.tup [.int (k + (i : Nat)), x]) :=
      ⟨by show 2 ≤ sizeLine; decide, [.int (k + (i : Nat)) tk, y], .cons ⟨_, rfl⟩ (.cons ru .nil), ⟨_, hT2, rfl, _, rfl⟩⟩
    have I2 : Inv X pins σ (L2.upd H s.heap.objs.size (.tup [.int (k + (i : Nat)), x])) { s with heap := h2, toks := tk + 1 } :=
      I.turnedNew (ch := [e, it]) (fun b ob hb q => (sb.2 b (fun z => hb (by simp [z]))).trans (hk b ob (fun z => hb (by simp [z])) (fun z => hb (by simp [z])) q)) hf (Nat.le_refl _) new
    refine ⟨.ref s.heap.objs.size, _, I2, rfl, ⟨_, x, rfl, I.hok.fresh (Nat.le_refl _), rfl, fun ys hy => by rw [I.list_inj hy hq]; exact hx⟩, ⟨⟨y, ?_⟩, ?_, q3⟩, fun b hb => ?_⟩
    · rw [show k + ((i + 1 : Nat) : Int) = k + (i : Int) + 1 by omega]
      exact q5
    · obtain ⟨o, z, r⟩ := st'.1
      exact ⟨o, (sb.2 it (Ne.symm q3)).trans z, r⟩
    · have hb2 : b < s.heap.objs.size := by
        rcases List.mem_cons.mp hb with z | z
        · rw [z]; exact hel
        · rw [List.mem_singleton.mp z]; exact hil
      rw [upd_ne (Nat.ne_of_lt hb2)]
      exact (hf b hb).1
  done := by
    rintro X rfl rfl rfl hc i pins s σ H E I hf ⟨⟨old, q1⟩, q2, q3⟩ ⟨xs, hq, hx⟩
    obtain ⟨its, rv, p, hz⟩ := I.list hq
    obtain ⟨f0, f1, f2, f3, f4, f5⟩ := hf it (by simp)
    have hl := rv.length
    have lsts : s.heap.IsList a its.toArray := p.isList
    have hT : s.TypeIs (.ref e) "enumerate" := ⟨_, q1, rfl⟩
    unfold pyNext
    refine wpAny_bind (wpAny_attempt (wpAny_callSpecial?_slot (name := Str.ofString "__next__") hT F.slot_enumerate_next (wpAny_call_entry F.slot_enumerate_next hT F.entry_enumerate_next ?_ (F.args_enumerate_next_1 _))))
    show wpAny _ _ (field (.ref e) 2 >>= _) _ _ _
    refine wpAny_bind (wpAny_field q1 rfl (x := .ref it) rfl ?_)
    refine wpAny_bind (wpAny_nextOf_list_end (by exact I.ok.hd hc) q2 lsts (by simp; omega) fun h' x eb hx' => ?_)
    obtain ⟨o, ho, hc'⟩ := hx'
    refine wpAny_bind (wpAny_isInstance (T := "StopIteration") (b := true) ⟨o, ho, hc'⟩ isSubtype_stop ?_)
    exact wpAny_pure ⟨rfl, I.turned (t' := s.toks) (fun b o hb q => eb b o hb q) f0 f1 f3 f4 f5⟩
  self := fun A i s Q E st h => wpAny_pyIter_enum st.1.choose_spec h
def iEnumS (K : PySem.W.Frag) (ta tk : TA) : TI := fun σ H R => ta σ H fun vs H1 => tk σ H1 fun zs H2 => ∃ a k xs, vs = [.ref a] ∧ zs = [.int k] ∧ 0 ≤ k ∧ k < 1000000 ∧ H2 a = some (.lst xs) ∧ R (IteS K a k) H2
theorem pi_enumS {X : Cx} {e : Expr} {ta tk : TA} {p pos tpos : Pos} {elts : List Expr} {kk : Nat} {kws : List Keyword} (hg : Gl X "enumerate") (hm : X.mg "enumerate" = none) (ha : PA X [e] ta) (hkw : PK X kws tk)
    (h1 : backTo pos (starEach [e] X.env) = (false, eval e X.env) :: backTo pos (starEach [] X.env) := by rfl) (h2 : (backTo pos (starEach [e] X.env)).any (·.1) = false := by rfl)
    (h3 : (backToKw pos (keywordEach kws X.env)).all (·.1.isSome) = true := by rfl) (h4 : (backToKw pos (keywordEach kws X.env)).any (·.1.isNone) = false := by rfl) (h5 : (backToKw pos (keywordEach kws X.env)).filterMap (·.1) = [Str.ofString "start"] := by rfl) :
    PI X (.Tuple elts kk tpos) (.Call (.Name "enumerate" p) [e] kws pos) (iEnumS X.K ta tk) := by
  refine ⟨fun pins s σ H R I h => ?_⟩
  refine wpAny_Call_Name_kw (ld_blt I hg hm boot_enumerate (callWith_tyKw (thn (ha.run pos pins s σ H _ I h) fun us s0 ⟨vs, H0, I0, r0, q0⟩ => thn (hkw.run pos pins s0 σ H0 _ I0 q0) fun ws s1 ⟨zs, H1, I1, r1, q1⟩ => ?_) h1 h2 h3 h4))
  rw [h5]
  obtain ⟨a, k, xs, rfl, rfl, k0, k1, hq, q⟩ := q1
  cases r0 with
  | cons r rr =>
    cases rr
    cases r
    cases r1 with
    | cons rk rr =>
      cases rr
      obtain ⟨t, rfl⟩ := rk
      obtain ⟨its, rv, p2, hz⟩ := I1.list (.inl (.inl hq))
      have lsts : s1.heap.IsList a its.toArray := p2.isList
      have hal : a < s1.heap.objs.size := by
        obtain ⟨_, z, _⟩ := lsts
        exact Heap.lt_size z
      refine enum_begins_start (begins_list a its.toArray) lsts (by omega) (by omega) fun h' e1 e2 hsz hk => wpAny_pyIter_enum e1 ?_
      have I2 : Inv X pins σ H1 { s1 with heap := h' } := I1.kept (t' := s1.toks) hk
      refine ⟨s1.heap.objs.size + 1, [s1.heap.objs.size + 1, s1.heap.objs.size], _, _, H1, rfl, I2, enumS_turn a (s1.heap.objs.size + 1) s1.heap.objs.size (Nat.ne_of_lt hal) (Nat.ne_of_lt (Nat.lt_succ_of_lt hal)), ⟨⟨.none, ?_⟩, ⟨_, e2, rfl, rfl⟩, Nat.succ_ne_self _⟩, fun b hb => ?_, q⟩
      · rw [show k + ((0 : Nat) : Int) = k by omega]
        exact e1
      have hle : s1.heap.objs.size ≤ b := by
        rcases List.mem_cons.mp hb with z | z
        · rw [z]; exact Nat.le_add_right _ _
        · rw [List.mem_singleton.mp z]; exact Nat.le_refl _
      exact I1.fpOk hle (I1.hok.fresh hle)
theorem for_enumS {K : PySem.W.Frag} {a : Addr} {xs : List V} {k : Int} {g : TG} {tb : TS} {D : Ends} {σ : L2.St} {H : Hp} (Pv : Nat → L2.St → Hp → Prop) (h0 : Pv 0 σ H) (hl : ∀ i σ H, Pv i σ H → H a = some (.lst xs))
    (hs : ∀ i x σ H T, xs[i]? = some x → Pv i σ H → H T = none → g (.ref T) σ (L2.upd H T (.tup [.int (k + (i : Nat)), x])) fun σ2 H2 => tb { D with nx := Pv (i + 1), ct := Pv (i + 1), bk := D.nx } σ2 H2) (hd : ∀ σ H, Pv xs.length σ H → D.nx σ H) :
    ∃ W : Nat → Nat → L2.St → Hp → Prop, (∃ m, W 0 m σ H) ∧ ∀ i m σ H, W i m σ H →
      ((IteS K a k).stop i H ∧ D.nx σ H) ∨ ((IteS K a k).go i H ∧ ∃ N : L2.St → Hp → Prop, (∀ σ' H', N σ' H' → ∃ m', m' < m ∧ W (i + 1) m' σ' H') ∧ ∀ x H', (IteS K a k).yld i H x H' → g x σ H' fun σ2 H2 => tb { D with nx := N, ct := N, bk := D.nx } σ2 H2) := by
  refine ⟨fun i m σ H => m = xs.length - i ∧ i ≤ xs.length ∧ Pv i σ H, ⟨xs.length, rfl, Nat.zero_le _, h0⟩, ?_⟩
  rintro i m σ H ⟨rfl, hi, p⟩
  have q := hl i σ H p
  by_cases hlt : i < xs.length
  · refine .inr ⟨⟨xs, xs[i], SqL.of q, List.getElem?_eq_getElem hlt⟩, Pv (i + 1), fun σ' H' p' => ⟨xs.length - (i + 1), by omega, rfl, hlt, p'⟩, fun x H' y => ?_⟩
    obtain ⟨T, x', rfl, nT', rfl, f⟩ := y
    obtain rfl : x' = xs[i] := Option.some.inj ((f xs (SqL.of q)).symm.trans (List.getElem?_eq_getElem hlt))
    exact hs i _ σ H T (List.getElem?_eq_getElem hlt) p nT'
  · refine .inl ⟨⟨xs, SqL.of q, by omega⟩, hd σ H ?_⟩
    rw [show xs.length = i by omega]
    exact p
end
/-! ### a, *b = t, t a tuple -/
section
open PyProof.Rows PySem.Spec
theorem starT_run {P : Program} {w : World} {A : Around} {E : Value → Shared → Prop} {s : Shared} {l : Addr} {its : Array Value} {Q : List Value → Shared → Prop} (tup : IsTup s.heap l its) (hd : A.handled = none) (n1 : 1 ≤ its.size) (n2 : its.size ≤ 16384)
    (q : ∀ D h' tk, s.heap.get? D = none → (∀ b o, s.heap.get? b = some o → h'.get? b = some o) → h'.get? D = some (seqObj "list" (its.toList.drop 1).toArray 0) → Q (its.toList.take 1 ++ [.ref D]) { s with heap := h', toks := tk }) : wpAny (model P w) A (unpackItems (.ref l) 2 (some 1)) Q E s := by
  have ne : l ≠ s.heap.objs.size := by
    obtain ⟨o, e, _⟩ := tup
    exact Nat.ne_of_lt (Heap.lt_size e)
  have ty : s.TypeIs (.ref l) "tuple" := tup.typeIs
  unfold unpackItems
  refine wpAny_bind ?_
  unfold notIterableAtAll
  refine wpAny_bind (wpAny_specialOf ty slot_tuple_iter.lookup (wpAny_pure ?_))
  simp only [Bool.false_eq_true, if_false]
  refine wpAny_bind (wpAny_holding (iter_tuple tup (wpAny_bind (wpAny_holding (draw_tuple ne 1 0 _ _ ⟨_, Heap.get?_push_size _ rfl, rfl, rfl⟩ (tup.push _) (by omega) fun g1 i1 sb => ?_)))))
  have t1 : IsTup g1 l its := (tup.push _).extBut sb.extBut ne
  rw [Nat.zero_add] at i1
  obtain ⟨oi, ei, _⟩ := id i1
  obtain ⟨ol, el, _⟩ := id t1
  rw [List.drop_zero]
  have l1 : (its.toList.take 1).length = 1 := by rw [List.length_take, Array.length_toList]; omega
  rw [if_neg (show ¬ ((its.toList.take 1).length < 1) by omega)]
  refine wpAny_bind (wpAny_holding (PySem.W.kun_collect (s := { s with heap := g1 }) (T := "tuple_iterator") (.inr (.inr (.inr rfl))) (Walks.tuple (A := A.in1) hd s.heap.objs.size l ne its) (fun j u st => st.1.typeIs) (k := 1) (by omega) ⟨i1, t1⟩ (Heap.lt_size ei) (Heap.lt_size el) (fun g2 tk hk => ?_) (by rw [sizeLine_eq]; omega)))
  have l2 : (its.toList.drop 1).length = its.size - 1 := by rw [List.length_drop, Array.length_toList]
  show wpAny _ _ (if (its.toList.drop 1).length < 2 - 1 - 1 then _ else _) _ _ _
  rw [if_neg (by omega)]
  show wpAny _ _ (newList ((its.toList.drop 1).take ((its.toList.drop 1).length - (2 - 1 - 1))) >>= fun d => pure (its.toList.take 1 ++ [d] ++ (its.toList.drop 1).drop ((its.toList.drop 1).length - (2 - 1 - 1)))) _ _ _
  rw [show (its.toList.drop 1).length - (2 - 1 - 1) = (its.toList.drop 1).length by omega, List.take_length, List.drop_length]
  have kp : ∀ b o, s.heap.get? b = some o → g2.get? b = some o := fun b o e => hk b o (Nat.ne_of_lt (Heap.lt_size e)) (sb.extBut b o (Nat.ne_of_lt (Heap.lt_size e)) (Heap.get?_push_of_some _ e))
  have fr : s.heap.get? g2.objs.size = none := by
    cases e : s.heap.get? g2.objs.size with
    | none => rfl
    | some o => exact absurd (Heap.lt_size (kp _ _ e)) (Nat.lt_irrefl _)
  refine wpAny_bind (wpAny_newList (wpAny_pure (by rw [List.append_nil]; exact q _ _ tk fr (fun b o e => Heap.get?_push_of_some _ (kp b o e)) (Heap.get?_push_size _ rfl))) (by rw [l2, sizeLine_eq]; omega))
/-- a, *b = t -/
def gStarT (K : PySem.W.Frag) (t : TGs) : TG := fun v σ H Q => ∃ a x xs, v = .ref a ∧ SqT K H a (x :: xs) ∧ xs.length ≤ 1000 ∧ ∀ D, H D = none → t [x, .ref D] σ (L2.upd H D (.lst xs)) Q
theorem pg_starT {X : Cx} {es : List Expr} {k : Nat} {pos : Pos} {t : TGs} (hc : X.calm = true) (h : PGs X es t)
    (hn : (assignEach es X.env).length = 2 := by rfl) (hst : (assignEach es X.env).findIdx? (·.1) = some 1 := by rfl) : PG X (.Tuple es k pos) (gStarT X.K t) := by
  refine ⟨fun pins s σ H v u Q I r hw => ?_⟩
  obtain ⟨a, x, xs, rfl, hq, hl, hw⟩ := hw
  cases r
  obtain ⟨its, rv, pl, hz⟩ := I.tuple hq
  have hlen := rv.length
  rw [List.length_cons] at hlen
  rw [PyProof.Rows.assign_Tuple]
  refine wpAny_bind (wpAny_standAt ?_)
  unfold unpack
  rw [hn, hst]
  have tup : IsTup s.heap a its.toArray := pl
  refine wpAny_bind (wpAny_holding (starT_run tup (I.ok.hd hc) (by rw [List.size_toArray]; omega) (by rw [List.size_toArray]; omega) fun D h' tk hD keep hl' => ?_))
  cases rv with
  | cons rx rxs =>
    rename_i ux uxs
    have hfr := hok_free I.hok hD
    have I1 : Inv X pins σ (L2.upd H D (.lst xs)) { s with heap := h', toks := tk } := I.un (un_laid keep hD hfr) (hok_laid I.hok keep hfr (show ObjOk X.prog X.w _ h' D (.lst xs) from ⟨by rw [sizeLine_eq]; omega, uxs, 0, rxs, hl'⟩))
    exact h.run pins _ σ _ _ _ Q I1 (.cons rx (.cons (show RelV (V.ref D) (Value.ref D) from rfl) .nil)) (hw D hfr)
end
/-! ### the words of operations -/
def opWord : Opn → Str
  | .add _ => "add"
  | .cancel _ => "cancel"
  | .prolong _ _ => "prolong"
  | .rais _ => "raise"
  | .undo => "undo"
  | .redo => "redo"
/-! ### texts of sessions: plain mathematics -/
def opNums : Opn → List Nat
  | .add o => [o.s, o.t, o.f, o.n, o.e]
  | .cancel k => [k]
  | .prolong k n => [k, n]
  | .rais k => [k]
  | .undo => []
  | .redo => []
def OpSm (op : Opn) : Prop := ∀ n ∈ opNums op, n ≤ 30
def opWords (op : Opn) : List Str := opWord op :: (opNums op).map nT
def opLine (op : Opn) : Str := Txt.join " " (opWords op)
def sessLines (p h : Nat) (os : List Od) (ops : List Opn) : List Str := linesOf p h os ++ ("changes" : Str) :: ops.map opLine
def sessText (p h : Nat) (os : List Od) (ops : List Opn) : Str := Txt.join "\n" (textOf p h os :: "changes" :: ops.map opLine)
theorem opWord_plain : ∀ op, Plain (opWord op)
  | .add _ => by show Plain "add"; unfold Plain; decide +kernel
  | .cancel _ => by show Plain "cancel"; unfold Plain; decide +kernel
  | .prolong _ _ => by show Plain "prolong"; unfold Plain; decide +kernel
  | .rais _ => by show Plain "raise"; unfold Plain; decide +kernel
  | .undo => by show Plain "undo"; unfold Plain; decide +kernel
  | .redo => by show Plain "redo"; unfold Plain; decide +kernel
theorem opWords_plain {op : Opn} (h : OpSm op) : ∀ w ∈ opWords op, Plain w := fun w hw => by
  rcases List.mem_cons.mp hw with rfl | hw
  · exact opWord_plain op
  · obtain ⟨n, hn, rfl⟩ := List.mem_map.mp hw
    exact nT_plain (h n hn)
theorem opWords_ne (op : Opn) : opWords op ≠ [] := by
  unfold opWords
  simp
theorem split_op {op : Opn} (h : OpSm op) : Txt.split (opLine op) " " = opWord op :: (opNums op).map nT := split_words (opWords_ne op) (opWords_plain h)
theorem opNums_len : ∀ op, (opNums op).length ≤ 5
  | .add _ => Nat.le_refl _
  | .cancel _ => by show 1 ≤ 5; decide
  | .prolong _ _ => by show 2 ≤ 5; decide
  | .rais _ => by show 1 ≤ 5; decide
  | .undo => Nat.zero_le _
  | .redo => Nat.zero_le _
theorem opWord_len : ∀ op, (opWord op).length ≤ 7
  | .add _ => by show ("add" : Str).length ≤ 7; decide +kernel
  | .cancel _ => by show ("cancel" : Str).length ≤ 7; decide +kernel
  | .prolong _ _ => by show ("prolong" : Str).length ≤ 7; decide +kernel
  | .rais _ => by show ("raise" : Str).length ≤ 7; decide +kernel
  | .undo => by show ("undo" : Str).length ≤ 7; decide +kernel
  | .redo => by show ("redo" : Str).length ≤ 7; decide +kernel
theorem sum_map_le {α : Type} {f : α → Nat} {l : List α} {m : Nat} (h : ∀ x ∈ l, f x ≤ m) : (l.map f).sum ≤ l.length * m := by
  have := sum_le (l := l.map f) (m := m) fun x hx => by
    obtain ⟨y, hy, rfl⟩ := List.mem_map.mp hx
    exact h y hy
  rw [List.length_map] at this
  exact this
theorem opWords_sum {op : Opn} (h : OpSm op) : ((opWords op).map (·.length)).sum ≤ 17 := by
  have a1 := opWord_len op
  have a2 : (((opNums op).map nT).map (·.length)).sum ≤ 10 := by
    refine Nat.le_trans (sum_map_le (m := 2) fun x hx => ?_) ?_
    · obtain ⟨n, hn, rfl⟩ := List.mem_map.mp hx
      exact (nT_ok (h n hn)).2.2.1
    · have := opNums_len op
      rw [List.length_map]
      omega
  show ((opWord op :: (opNums op).map nT).map (·.length)).sum ≤ 17
  rw [List.map_cons, List.sum_cons]
  omega
theorem opWords_len (op : Opn) : (opWords op).length ≤ 6 := by
  show ((opNums op).map nT).length.succ ≤ 6
  rw [List.length_map]
  have := opNums_len op
  omega
theorem len_op {op : Opn} (h : OpSm op) : (opLine op).length ≤ 30 := by
  refine Nat.le_trans (len_join _) ?_
  have a1 := opWords_sum h
  have a2 := opWords_len op
  have a7 : (" " : Str).length = 1 := by decide +kernel
  rw [a7]
  omega
theorem op_free {op : Opn} (h : OpSm op) : 10 ∉ TL.tl (opLine op) := line_free (opWords_plain h)
theorem changes_free : 10 ∉ TL.tl ("changes" : Str) := by decide +kernel
theorem changes_len : ("changes" : Str).length = 7 := by decide +kernel
theorem lines_free {p h : Nat} {os : List Od} (k : NetOk p h os) : ∀ l ∈ linesOf p h os, 10 ∉ TL.tl l := fun l hl => by
  have := k.p30; have := k.h10
  rcases List.mem_cons.mp hl with rfl | hl
  · refine line_free fun w hw => ?_
    simp only [List.mem_cons, List.not_mem_nil, or_false] at hw
    rcases hw with rfl | rfl | rfl
    · exact net_plain
    · exact nT_plain (by omega)
    · exact nT_plain (by omega)
  · obtain ⟨o, ho, rfl⟩ := List.mem_map.mp hl
    refine line_free fun w hw => ?_
    rcases List.mem_cons.mp hw with rfl | hw
    · exact order_plain
    · exact wordsO_plain k ho w hw
theorem joinL_joined {S : List Nat} : ∀ (xs : List (List Nat)) (rest : List (List Nat)), xs ≠ [] → TL.joinL S (TL.joinL S xs :: rest) = TL.joinL S (xs ++ rest)
  | [], _, h => absurd rfl h
  | [x], [], _ => rfl
  | [x], y :: r, _ => rfl
  | x :: z :: xs, rest, _ => by
    have ih := joinL_joined (S := S) (z :: xs) rest (by simp)
    cases rest with
    | nil =>
      rw [List.append_nil]
      rfl
    | cons y r =>
      show (x ++ (S ++ TL.joinL S (z :: xs))) ++ (S ++ TL.joinL S (y :: r)) = x ++ (S ++ TL.joinL S ((z :: xs) ++ (y :: r)))
      rw [← ih]
      show _ = x ++ (S ++ (TL.joinL S (z :: xs) ++ (S ++ TL.joinL S (y :: r))))
      simp [List.append_assoc]
theorem sess_join (p h : Nat) (os : List Od) (ops : List Opn) : sessText p h os ops = Txt.join "\n" (sessLines p h os ops) := by
  unfold sessText sessLines textOf
  rw [TL.join_eq, TL.join_eq, TL.join_eq]
  refine TL.ext_tl ?_
  rw [TL.tl_join, TL.tl_join, List.map_cons, TL.tl_join]
  rw [joinL_joined _ _ (by unfold linesOf; simp), List.map_append]
theorem split_sess {p h : Nat} {os : List Od} {ops : List Opn} (k : NetOk p h os) (ho : ∀ op ∈ ops, OpSm op) : Txt.split (sessText p h os ops) "\n" = sessLines p h os ops := by
  rw [sess_join]
  refine split_lines (by unfold sessLines; simp) fun l hl => ?_
  rcases List.mem_append.mp hl with hl | hl
  · exact lines_free k l hl
  · rcases List.mem_cons.mp hl with rfl | hl
    · exact changes_free
    · obtain ⟨op, hop, rfl⟩ := List.mem_map.mp hl
      exact op_free (ho op hop)
theorem blank_in {w : Str} {ws : List Str} (hne : ws ≠ []) : 32 ∈ TL.tl (Txt.join " " (w :: ws)) := by
  rw [TL.join_eq, TL.tl_join]
  cases ws with
  | nil => exact absurd rfl hne
  | cons y r =>
    have e : TL.tl (" " : Str) = [32] := by decide +kernel
    show 32 ∈ TL.tl w ++ (TL.tl " " ++ TL.joinL (TL.tl " ") (TL.tl y :: r.map TL.tl))
    rw [e]
    simp
theorem line_not_changes {p h : Nat} {os : List Od} : ∀ l ∈ linesOf p h os, l ≠ "changes" := fun l hl e => by
  have hb : 32 ∈ TL.tl l := by
    rcases List.mem_cons.mp hl with rfl | hl
    · exact blank_in (by simp)
    · obtain ⟨o, ho, rfl⟩ := List.mem_map.mp hl
      exact blank_in (by unfold wordsO; simp)
  rw [e] at hb
  exact absurd hb (by decide +kernel)
theorem linesOf_len {p h : Nat} {os : List Od} : (linesOf p h os).length = os.length + 1 := by
  show (os.map lineOrd).length.succ = _
  rw [List.length_map]
theorem sess_len {p h : Nat} {os : List Od} {ops : List Opn} : (sessLines p h os ops).length = os.length + 1 + 1 + ops.length := by
  unfold sessLines
  rw [List.length_append, linesOf_len, List.length_cons, List.length_map]
  omega
theorem sess_sum {p h : Nat} {os : List Od} {ops : List Opn} (k : NetOk p h os) (ho : ∀ op ∈ ops, OpSm op) (hl : ops.length ≤ 100) : ((textOf p h os :: "changes" :: ops.map opLine).map (·.length)).sum ≤ 4000 := by
  have a1 := len_text k
  have a2 : ((ops.map opLine).map (·.length)).sum ≤ 3000 := by
    refine Nat.le_trans (sum_map_le (m := 30) fun x hx => ?_) ?_
    · obtain ⟨op, hop, rfl⟩ := List.mem_map.mp hx
      exact len_op (ho op hop)
    · rw [List.length_map]
      omega
  have a3 := changes_len
  rw [List.map_cons, List.sum_cons, List.map_cons, List.sum_cons, a3]
  omega
theorem len_sess {p h : Nat} {os : List Od} {ops : List Opn} (k : NetOk p h os) (ho : ∀ op ∈ ops, OpSm op) (hl : ops.length ≤ 100) : (sessText p h os ops).length ≤ 5000 := by
  refine Nat.le_trans (len_join _) ?_
  have a1 := sess_sum k ho hl
  have a2 : ("\n" : Str).length = 1 := by decide +kernel
  rw [a2, List.length_cons, List.length_cons, List.length_map]
  omega
abbrev s_is_operation : Stmt := top 41
abbrev N_is_operation : List Str := ["entry"]
abbrev P_is_operation : List Str := ["entry"]
theorem sc_is_operation : FnScope N_is_operation P_is_operation (defScope s_is_operation) := ⟨rfl, rfl, rfl, by decide +kernel, rfl, by decide +kernel, by decide +kernel⟩
/-! ### a dict of the module with text keys and whole numbers -/
structure DctA (K : PySem.W.Frag) (w : World) (mg : Str → Option Value) (x : Str) (kvs : List (Str × Int)) : Prop where
  ex : ∃ d es n, mg x = some (.ref d) ∧ KDict K w d es n ∧ ∀ p ∈ kvs, ∃ t, PySem.W.nsIn K d p.1 = some (some (.int p.2 t))
theorem DctA.mk' {K : PySem.W.Frag} {w : World} {mg : Str → Option Value} {x : Str} {kvs : List (Str × Int)} {d : Addr} {es : Array DictEntry} {n : Nat} (g : mg x = some (.ref d)) (l : K.lookup d = some ⟨.type "dict", none, .dict es n, #[]⟩) (k : PySem.W.KeysLit w.params es.toList) (lo : (d == sysModules) = false)
    (h : ∀ p ∈ kvs, ∃ t, PySem.W.nsIn K d p.1 = some (some (.int p.2 t))) : DctA K w mg x kvs := ⟨d, es, n, g, ⟨l, k, lo⟩, h⟩
abbrev argsL : List (Str × Int) := [("add", 1), ("cancel", 1), ("prolong", 2), ("raise", 1), ("undo", 0), ("redo", 0)]
def opArgs (op : Opn) : Nat := match op with
  | .add _ => 1
  | .cancel _ => 1
  | .prolong _ _ => 2
  | .rais _ => 1
  | .undo => 0
  | .redo => 0
theorem OpnAt.seq {H : Hp} {a : Addr} {op : Opn} (h : OpnAt H a op) : ∃ r, H a = some (.tup (.str (opWord op) :: r)) ∧ r.length = opArgs op ∧ (opWord op, (opArgs op : Int)) ∈ argsL := by
  cases op with
  | add od => obtain ⟨v, hv, _⟩ := h; exact ⟨_, hv, rfl, by show (("add" : Str), (1 : Int)) ∈ argsL; simp [argsL]⟩
  | cancel k => exact ⟨_, h, rfl, by show (("cancel" : Str), (1 : Int)) ∈ argsL; simp [argsL]⟩
  | prolong k n => exact ⟨_, h, rfl, by show (("prolong" : Str), (2 : Int)) ∈ argsL; simp [argsL]⟩
  | rais k => exact ⟨_, h, rfl, by show (("raise" : Str), (1 : Int)) ∈ argsL; simp [argsL]⟩
  | undo => exact ⟨_, h, rfl, by show (("undo" : Str), (0 : Int)) ∈ argsL; simp [argsL]⟩
  | redo => exact ⟨_, h, rfl, by show (("redo" : Str), (0 : Int)) ∈ argsL; simp [argsL]⟩
theorem OpnAt.keep {H H' : Hp} {a : Addr} {op : Opn} (k : TupKeep H H') (h : OpnAt H a op) : OpnAt H' a op := by
  cases op with
  | add od => obtain ⟨v, h1, h2⟩ := h; exact ⟨v, k _ _ h1, h2.keep k⟩
  | cancel i => exact k _ _ h
  | prolong i n => exact k _ _ h
  | rais i => exact k _ _ h
  | undo => exact k _ _ h
  | redo => exact k _ _ h
def spIsOpn : Sp := fun vs H Q _ => ∃ (a : Addr) (op : Opn), vs = [.ref a] ∧ OpnAt H a op ∧ Q (.bl true) H
/-- a list of operations -/
def OpsAt (H : Hp) (l : Addr) (ops : List Opn) : Prop := ∃ xs, H l = some (.lst xs) ∧ Paired (fun v op => ∃ a, v = .ref a ∧ OpnAt H a op) xs ops
section
variable {P : Program} {w : World} {K : PySem.W.Frag} {mg : Str → Option Value} {base : Heap}
theorem ok_is_opn {f : Addr} {fd : FuncData} (F : Fun K "is_operation" "is_operation" s_is_operation f fd) (B : Blt mg) (DA : DctA K w mg "ARGUMENTS" argsL) : FnOk P w K mg base CX0 1 f fd P_is_operation spIsOpn := by
  obtain ⟨d, es, n, hg, D, hk⟩ := DA.ex
  refine F.ok sc_is_operation (fun vs H Q E h => ?_) (fun cdv A outer s H vs Q E hr h => ?_)
  · obtain ⟨a, op, rfl, _⟩ := h
    rfl
  · obtain ⟨a, op, rfl, ha, q⟩ := h
    refine ⟨_, pss_cons (ps_if (PW.pt (pw_or (pt_not (pt_val (pe_callB call_isi (by rfl) B.isi PyProof.Rows.boot_isinstance (pa_cons (pv 0) (pa_cons (pe_bltn (v := .ty "tuple") (by rfl) B.tuple (by decide +kernel) rfl) pa_nil)))))
        (pw_or (pt_cmpR op_eq (pe_callB call_len_seq (by rfl) B.len PySem.boot_len (pa_cons (pv 0) pa_nil)) pe_int (nomark _))
        (pw_or1 (pt_not (pt_val (pe_callB call_isi (by rfl) B.isi PyProof.Rows.boot_isinstance (pa_cons (pe_ix ix_tup (pv 0) pe_int (fun _ _ => rfl)) (pa_cons (pe_bltn (v := .ty "str") (by rfl) B.str (by decide +kernel) rfl) pa_nil))))))))) (pss_one (ps_ret pe_bl)) pss_nil)
      (pss_one (ps_ret (pe_and (pe_cmpR (op_in_kd D) (pe_ix ix_tup (pv 0) pe_int (fun _ _ => rfl)) (pe_glob (v := .ref d) rfl hg rfl) rfl)
        (pe_one (pe_cmpR op_eq (pe_op op_sub (pe_callB call_len_seq (by rfl) B.len PySem.boot_len (pa_cons (pv 0) pa_nil)) pe_int) (pe_ix ix_kdict (pe_glob (v := .ref d) rfl hg rfl) (pe_ix ix_tup (pv 0) pe_int (fun _ _ => rfl)) (fun _ _ => rfl)) (nomark _)))))), ?_⟩
    obtain ⟨r, hr2, hl, hm⟩ := ha.seq
    obtain ⟨tk, hn⟩ := hk _ hm
    refine ⟨_, rfl, _, _, _, _, true, rfl, .ty "tuple", .base (.tup hr2), kit_ty (by decide +kernel), _, rfl, iteF ⟨_, rfl, a, _, rfl, .inr (SqT.of hr2), rfl, false, congrArg V.bl (decide_eq_false (fun z => ?_)), iteF ⟨_, rfl, a, _, 0, _, rfl, rfl, SqT.of hr2, atI_nat (j := 0) rfl, _, _, _, _, true, rfl, .ty "str", .base (.str _), kit_ty (by decide +kernel), _, rfl, iteF ?_⟩⟩⟩
    · have := V.int.inj z
      rw [List.length_cons] at this
      omega
    refine ⟨_, rfl, a, _, 0, _, rfl, rfl, SqT.of hr2, atI_nat (j := 0) rfl, _, _, rfl, rfl, hn, true, rfl, iteT ?_⟩
    refine ⟨_, rfl, a, _, rfl, .inr (SqT.of hr2), _, _, rfl, rfl, _, rfl, a, _, 0, _, rfl, rfl, SqT.of hr2, atI_nat (j := 0) rfl, d, _, .int (opArgs op : Nat), rfl, rfl, ⟨es, n, _, D.at_, D.lit, hn, ⟨_, rfl⟩⟩, ?_⟩
    refine ⟨rfl, ?_⟩
    have e : V.int (((V.str (opWord op) :: r).length : Nat) - 1) = V.int (opArgs op : Nat) := congrArg V.int (by rw [List.length_cons, hl]; omega)
    show Q (.bl (decide (V.int (((V.str (opWord op) :: r).length : Nat) - 1) = V.int (opArgs op : Nat)))) H
    rw [e, decide_eq_true rfl]
    exact q
end
/-! ### several operations, one behind the other -/
def nextAll (S : OffS) : List Opn → OffS
  | [] => S
  | op :: r => nextAll (nextO S op) r
def GoAll (S : OffS) : List Opn → Prop
  | [] => True
  | op :: r => OpnOk S op ∧ GoAll (nextO S op) r
inductive Rv where
  | int (n : Nat)
  | non
  | bl (b : Bool)
  | od (o : Od)
def RvAt (H : Hp) (v : V) : Rv → Prop
  | .int n => v = .int n
  | .non => v = .non
  | .bl b => v = .bl b
  | .od o => OrdAt H v o
theorem RvAt.keep {H H' : Hp} {v : V} {r : Rv} (k : TupKeep H H') (h : RvAt H v r) : RvAt H' v r := by
  cases r with
  | od o => exact OrdAt.keep k h
  | int n => exact h
  | non => exact h
  | bl b => exact h
def od0 : Od := ⟨0, 0, 0, 0, 0⟩
def resR (S : OffS) : Opn → Rv
  | .add _ => .int S.cur.length
  | .cancel k => .od ((S.cur[k]?).getD od0)
  | .prolong k _ => .int ((S.cur[k]?).getD od0).n
  | .rais _ => .non
  | .undo => .bl (decide (S.e ≠ 0))
  | .redo => .bl (decide (S.e < S.st.length))
def resAll (S : OffS) : List Opn → List Rv
  | [] => []
  | op :: r => resR S op :: resAll (nextO S op) r
theorem resO_rv {H : Hp} {v : V} {S : OffS} {op : Opn} (h : ResO H v S op) : RvAt H v (resR S op) := by
  cases op with
  | add od => exact h
  | cancel k =>
    obtain ⟨od, e, r⟩ := h
    show OrdAt H v ((S.cur[k]?).getD od0)
    rw [e]
    exact r
  | prolong k n =>
    obtain ⟨od, e, r⟩ := h
    show v = .int ((S.cur[k]?).getD od0).n
    rw [e]
    exact r
  | rais k => exact h
  | undo => exact h
  | redo => exact h
theorem nextAll_snoc : ∀ (ops : List Opn) (S : OffS) (op : Opn), nextAll S (ops ++ [op]) = nextO (nextAll S ops) op
  | [], _, _ => rfl
  | o :: r, S, op => nextAll_snoc r (nextO S o) op
theorem nextAll_app : ∀ (xs ys : List Opn) (S : OffS), nextAll S (xs ++ ys) = nextAll (nextAll S xs) ys
  | [], _, _ => rfl
  | o :: r, ys, S => nextAll_app r ys (nextO S o)
theorem resAll_app : ∀ (xs ys : List Opn) (S : OffS), resAll S (xs ++ ys) = resAll S xs ++ resAll (nextAll S xs) ys
  | [], _, _ => rfl
  | o :: r, ys, S => congrArg (resR S o :: ·) (resAll_app r ys (nextO S o))
theorem resAll_len : ∀ (xs : List Opn) (S : OffS), (resAll S xs).length = xs.length
  | [], _ => rfl
  | o :: r, S => congrArg Nat.succ (resAll_len r (nextO S o))
theorem goAll_at : ∀ (ops : List Opn) (S : OffS), GoAll S ops → ∀ i op, ops[i]? = some op → OpnOk (nextAll S (ops.take i)) op
  | [], _, _, i, _, h => by simp at h
  | o :: r, S, g, 0, op, h => by
    cases h
    exact g.1
  | o :: r, S, g, i + 1, op, h => goAll_at r (nextO S o) g.2 i op h
theorem goAll_app : ∀ (xs ys : List Opn) (S : OffS), GoAll S (xs ++ ys) ↔ GoAll S xs ∧ GoAll (nextAll S xs) ys
  | [], _, _ => ⟨fun h => ⟨trivial, h⟩, fun h => h.2⟩
  | o :: r, ys, S => by
    have ih := goAll_app r ys (nextO S o)
    exact ⟨fun h => ⟨⟨h.1, (ih.mp h.2).1⟩, (ih.mp h.2).2⟩, fun h => ⟨h.1.1, ih.mpr ⟨h.1.2, h.2⟩⟩⟩
theorem nextO_len {S : OffS} {op : Opn} : (nextO S op).st.length ≤ S.st.length + 1 := by
  have st : ∀ (w : Str) (os : List Od), (S.step w os).st.length ≤ S.st.length + 1 := fun w os => by
    show (S.st.take S.e ++ [(w, os)]).length ≤ _
    rw [List.length_append, List.length_take, List.length_singleton]
    omega
  cases op with
  | add od => exact st _ _
  | cancel k => exact st _ _
  | prolong k n => exact st _ _
  | rais k => exact st _ _
  | undo => exact Nat.le_succ _
  | redo => exact Nat.le_succ _
theorem nextAll_len : ∀ (ops : List Opn) (S : OffS), (nextAll S ops).st.length ≤ S.st.length + ops.length
  | [], _ => Nat.le_refl _
  | o :: r, S => by
    have h1 := nextAll_len r (nextO S o)
    have h2 := nextO_len (S := S) (op := o)
    show (nextAll (nextO S o) r).st.length ≤ S.st.length + (r.length + 1)
    omega
theorem OpsAt.keep {H H' : Hp} {l : Addr} {ops : List Opn} (h : OpsAt H l ops) (k : TupKeep H H') (e : ∀ xs, H l = some (.lst xs) → H' l = some (.lst xs)) : OpsAt H' l ops := by
  obtain ⟨xs, h1, h2⟩ := h
  refine ⟨xs, e _ h1, Paired.mapP h2 fun _ _ z => ?_⟩
  obtain ⟨a, e, ha⟩ := z
  exact ⟨a, e, ha.keep k⟩
theorem nextO_fix {S : OffS} {op : Opn} : (nextO S op).sn = S.sn ∧ (nextO S op).F = S.F := by
  cases op <;> exact ⟨rfl, rfl⟩
theorem nextAll_fix {ops : List Opn} {S : OffS} : (nextAll S ops).sn = S.sn ∧ (nextAll S ops).F = S.F := by
  induction ops generalizing S with
  | nil => exact ⟨rfl, rfl⟩
  | cons op r ih =>
    obtain ⟨h1, h2⟩ := ih (S := nextO S op)
    obtain ⟨g1, g2⟩ := nextO_fix (S := S) (op := op)
    exact ⟨h1.trans g1, h2.trans g2⟩
abbrev s_Office_replay : Stmt := inClass (top 40) 12
abbrev N_Office_replay : List Str := ["cls", "net", "operations", "office", "place", "operation"]
abbrev P_Office_replay : List Str := ["cls", "net", "operations"]
theorem sc_Office_replay : FnScope N_Office_replay P_Office_replay (defScope s_Office_replay) := ⟨rfl, rfl, rfl, by decide +kernel, rfl, by decide +kernel, by decide +kernel⟩
/-! ### an office after several operations on a new one -/
def spReplay (O C : Addr) : Sp := fun vs H Q _ => ∃ (x l t : Addr) (p h : Nat) (os : List Od) (F : List Addr) (ops : List Opn), vs = [.ref O, .ref x, .ref l] ∧ NetAt C H x p h os t F ∧ OpsAt H l ops ∧ ops.length ≤ 100 ∧ (∀ sn, GoAll ⟨x, t, p, h, os, F, [], 0, sn⟩ ops) ∧
  ∀ H' o sn, Same H H' → H o = none → H sn = none → OffAt O C H' o (nextAll ⟨x, t, p, h, os, F, [], 0, sn⟩ ops) → SnAt p h H' sn (fun _ => none) 0 → Q (.ref o) H'
section
variable {P : Program} {w : World} {K : PySem.W.Frag} {mg : Str → Option Value} {base : Heap}
set_option maxHeartbeats 0 in
theorem ok_replay {f O C fI fX : Addr} {fd fdI fdX : FuncData} (F : Fun K "replay" "Office.replay" s_Office_replay f fd) (B : Blt mg) (T : OffT K O) (MI : Mk K O fI) (GI : FnOk P w K mg base CX0 1 fI fdI P_Office_init (spOInit2 O C)) (bI : Binds K fdI P_Office_init [])
    (DI : Df P w K mg base "is_operation" 1 P_is_operation spIsOpn) (mX : Meth K O "execute" fX) (GX : FnOk P w K mg base CX0 5 fX fdX P_Office_execute (spExec O C)) (bX : Binds K fdX P_Office_execute []) : FnOk P w K mg base CX0 6 f fd P_Office_replay (spReplay O C) := by
  obtain ⟨fP, dP, gP, kP, bP, GP⟩ := DI
  refine F.ok sc_Office_replay (fun vs H Q E h => ?_) (fun cdv A outer s H vs Q E hr h => ?_)
  · obtain ⟨x, l, t, p, h, os, F, ops, rfl, _⟩ := h
    rfl
  · obtain ⟨x, l, t, p, h, os, F, ops, rfl, N, hops, len, go, q⟩ := h
    have hr2 : Room 2 _ := hr.mono (by decide)
    have hr1 : Room 1 _ := hr.mono (by decide)
    refine ⟨_, pss_cons (ps_if (pt_not (pt_val (pe_callB call_isi (by rfl) B.isi PyProof.Rows.boot_isinstance (pa_cons (pv 2) (pa_cons (pe_bltn (v := .ty "list") (by rfl) B.list (by decide +kernel) rfl) pa_nil))))) (pss_one ps_never) pss_nil)
      (pss_cons (ps_set (i := 3) sc_Office_replay.nd rfl (.inl rfl) (pe_makeL (i := 0) MI GI hr2 rfl (.inl rfl) bI .nil pass0 (pa_cons (pv 1) pa_nil)))
      (pss_cons (ps_for PassesOwn.never rfl (pi_enum (by rfl) B.enum (pa_cons (pv 2) pa_nil)) (pg_tup (by rfl) (pgs_cons (pg_name (i := 4) sc_Office_replay.nd rfl (.inl rfl)) (pgs_cons (pg_name (i := 5) sc_Office_replay.nd rfl (.inl rfl)) pgs_nil)))
        (pss_cons (ps_if (pt_not (pt_val (pe_call GP hr1 (by rfl) gP kP bP .nil pass0 (pa_cons (pv 5) pa_nil)))) (pss_one ps_never) pss_nil)
        (pss_one (ps_try_thru0 (pss_one (ps_expr (pe_meth (pv 3) T.cl mX GX hr bX .nil pass0 (pa_cons (pv 5) pa_nil))))))))
      (pss_one (ps_ret (pv 3))))), ?_⟩
    obtain ⟨xs, hl, hX⟩ := id hops
    refine ⟨_, rfl, _, _, _, _, true, rfl, .ty "list", .base (.lst hl), kit_ty (by decide +kernel), _, rfl, iteF ?_⟩
    refine ⟨rfl, _, rfl, fun o dx no ndx nex => ?_⟩
    have sA : Same H (L2.upd (L2.upd H dx (.own o)) o (.ins O dx [])) := same_updN (same_upd ndx) no
    refine ⟨o, dx, x, t, p, h, os, F, H, rfl, N, sA, no, upd_same, fun H1 sn s1 nsn hsn A1 => ⟨rfl, ?_⟩⟩
    have no' : H o = none := no
    have nos : o ≠ sn := by
      obtain ⟨_, _, _, _, ho1, _⟩ := id A1
      exact ne_of ho1 hsn (by intro z; cases z)
    refine ⟨_, rfl, l, xs, rfl, SqL.of (s1 _ _ hl), for_enumL (K := K) (a := l) (xs := xs) (fun i σ H' => (∃ x4 x5, σ = [some (.ref O), some (.ref x), some (.ref l), some (.ref o), x4, x5]) ∧ Same H H' ∧ H' sn = some (.dK []) ∧ OffAt O C H' o (nextAll ⟨x, t, p, h, os, F, [], 0, sn⟩ (ops.take i)))
      ⟨⟨_, _, rfl⟩, s1, hsn, A1⟩ (fun i σ H' ⟨_, s2, _⟩ => s2 _ _ hl) ?_ ?_⟩
    · rintro i v σ H2 tp hi ⟨⟨x4, x5, rfl⟩, s2, hs2, A2⟩ ntp
      have lt : i < ops.length := by rw [← hX.length]; exact (List.getElem?_eq_some_iff.mp hi).1
      have eg := List.getElem?_eq_getElem lt
      obtain ⟨v', hv', a, rfl, ha⟩ := Paired.get? (i := i) hX eg
      obtain rfl : _ = v := Option.some.inj (hv'.symm.trans hi)
      generalize ops[i] = op at eg ha
      have hn3 := nextAll_len (ops.take i) ⟨x, t, p, h, os, F, [], 0, sn⟩
      rw [List.length_take] at hn3
      have hn3 : (nextAll ⟨x, t, p, h, os, F, [], 0, sn⟩ (ops.take i)).st.length ≤ 0 + min i ops.length := hn3
      have s3 := same_upd (o := HO.tup [.int (i : Nat), .ref a]) ntp
      have A3 := A2.same s3
      have ha3 := ha.keep (tk_of (s2.trans s3))
      obtain ⟨dx3, fs3, _, _, ho3, R3, _⟩ := id A3
      refine ⟨tp, _, rfl, SqT.of upd_same, rfl, _, _, rfl, _, _, rfl, rfl, _, rfl, a, op, rfl, ha3, _, rfl, iteF ?_⟩
      refine ⟨_, rfl, o, dx3, fs3, rfl, ho3, R3.no _ (by decide +kernel) (by decide +kernel) (by decide +kernel) (by decide +kernel), _, rfl, o, a, op, _, rfl, A3, by omega, ha3, goAll_at ops _ (go sn) i op eg, fun H4 v4 b4 A4 r4 => ?_⟩
      refine ⟨⟨_, _, rfl⟩, fun z ob e => ?_, b4 _ _ nos.symm (s3 _ _ hs2), ?_⟩
      · exact b4 _ _ (ne_of_none e no') (s3 _ _ (s2 _ _ e))
      · rw [List.take_add_one, eg, Option.toList_some, nextAll_snoc]
        exact A4
    · rintro σ H2 ⟨⟨x4, x5, rfl⟩, s2, hs2, A2⟩
      rw [hX.length, List.take_length] at A2
      exact ⟨_, rfl, q H2 o sn s2 no' nsn A2 ⟨[], hs2, Nat.le_refl _, fun _ => rfl⟩⟩
end
/-! ### an operation as an office takes it -/
theorem opi_n {H : Hp} {a : Addr} {op : OpI} (h : OpIAt H a op) (h1 : ∀ i, op = .cancel i ∨ op = .rais i → 0 ≤ i) (h2 : ∀ i n, op = .prolong i n → 0 ≤ i) : OpnAt H a op.toN := by
  cases op with
  | add od => exact h
  | cancel i =>
    show H a = some (.tup [.str "cancel", .int ((i.toNat : Nat) : Int)])
    rw [Int.toNat_of_nonneg (h1 i (.inl rfl))]
    exact h
  | prolong i n =>
    show H a = some (.tup [.str "prolong", .int ((i.toNat : Nat) : Int), .int n])
    rw [Int.toNat_of_nonneg (h2 i n rfl)]
    exact h
  | rais i =>
    show H a = some (.tup [.str "raise", .int ((i.toNat : Nat) : Int)])
    rw [Int.toNat_of_nonneg (h1 i (.inr rfl))]
    exact h
  | undo => exact h
  | redo => exact h
abbrev s_read_operation : Stmt := top 44
abbrev N_read_operation : List Str := ["line", "word", "numbers"]
abbrev P_read_operation : List Str := ["line"]
theorem sc_read_operation : FnScope N_read_operation P_read_operation (defScope s_read_operation) := ⟨rfl, rfl, rfl, by decide +kernel, rfl, by decide +kernel, by decide +kernel⟩
abbrev s_read_operations : Stmt := top 43
abbrev N_read_operations : List Str := ["lines", "start", "operations", "at", "line", "operation"]
abbrev P_read_operations : List Str := ["lines", "start"]
theorem sc_read_operations : FnScope N_read_operations P_read_operations (defScope s_read_operations) := ⟨rfl, rfl, rfl, by decide +kernel, rfl, by decide +kernel, by decide +kernel⟩
abbrev s_parse_session : Stmt := top 42
abbrev N_parse_session : List Str := ["text", "lines", "start", "net", "operations"]
abbrev P_parse_session : List Str := ["text"]
theorem sc_parse_session : FnScope N_parse_session P_parse_session (defScope s_parse_session) := ⟨rfl, rfl, rfl, by decide +kernel, rfl, by decide +kernel, by decide +kernel⟩
/-! ### a session of its text -/
abbrev numsL : List (Str × Int) := [("add", 5), ("cancel", 1), ("prolong", 2), ("raise", 1), ("undo", 0), ("redo", 0)]
theorem opWord_nums (op : Opn) : (opWord op, ((opNums op).length : Int)) ∈ numsL := by
  cases op with
  | add od => show (("add" : Str), (5 : Int)) ∈ numsL; simp [numsL]
  | cancel k => show (("cancel" : Str), (1 : Int)) ∈ numsL; simp [numsL]
  | prolong k n => show (("prolong" : Str), (2 : Int)) ∈ numsL; simp [numsL]
  | rais k => show (("raise" : Str), (1 : Int)) ∈ numsL; simp [numsL]
  | undo => show (("undo" : Str), (0 : Int)) ∈ numsL; simp [numsL]
  | redo => show (("redo" : Str), (0 : Int)) ∈ numsL; simp [numsL]
theorem opn_of (op : Opn) : (∃ od, op = .add od) ∨ (¬ opWord op = "add" ∧ ∀ (H : Hp) (a : Addr), H a = some (.tup (.str (opWord op) :: (opNums op).map fun n => V.int (n : Nat))) → OpnAt H a op) := by
  cases op with
  | add od => exact .inl ⟨od, rfl⟩
  | cancel k => exact .inr ⟨(by show ¬ ("cancel" : Str) = "add"; decide +kernel), fun _ _ h => h⟩
  | prolong k n => exact .inr ⟨(by show ¬ ("prolong" : Str) = "add"; decide +kernel), fun _ _ h => h⟩
  | rais k => exact .inr ⟨(by show ¬ ("raise" : Str) = "add"; decide +kernel), fun _ _ h => h⟩
  | undo => exact .inr ⟨(by show ¬ ("undo" : Str) = "add"; decide +kernel), fun _ _ h => h⟩
  | redo => exact .inr ⟨(by show ¬ ("redo" : Str) = "add"; decide +kernel), fun _ _ h => h⟩
def spReadOp : Sp := fun vs H Q _ => ∃ (op : Opn), vs = [.str (opLine op)] ∧ OpSm op ∧ ∀ H' b, Same H H' → OpnAt H' b op → Q (.ref b) H'
def spReadOps : Sp := fun vs H Q _ => ∃ (l : Addr) (pre : List Str) (ops : List Opn), vs = [.ref l, .int (pre.length : Nat)] ∧ H l = some (.lst ((pre ++ ops.map opLine).map V.str)) ∧ pre.length ≤ 100 ∧ ops.length ≤ 100 ∧ (∀ op ∈ ops, OpSm op) ∧
  ∀ H' r, Same H H' → H r = none → OpsAt H' r ops → Q (.ref r) H'
section
variable {P : Program} {w : World} {K : PySem.W.Frag} {mg : Str → Option Value} {base : Heap}
theorem nums_row {op : Opn} (sm : OpSm op) : rowOf (opWord op) (opNums op).length (opWord op :: (opNums op).map nT) ((opNums op).map some) = some (opNums op) := by
  have h1 : ((opNums op).map some).all Option.isSome = true := by simp
  have h2 : ((opNums op).map some).length = (opNums op).length := List.length_map _
  have h3 : ((opNums op).map some).filterMap id = opNums op := by simp [List.filterMap_map]
  show (if opWord op = opWord op ∧ ((opNums op).map some).length = (opNums op).length ∧ ((opNums op).map some).all Option.isSome = true then some (((opNums op).map some).filterMap id) else none) = _
  rw [if_pos ⟨rfl, h2, h1⟩, h3]
theorem wks : ∀ {ns : List Nat}, (∀ n ∈ ns, n ≤ 30) → Paired Wk (ns.map nT) (ns.map some)
  | [], _ => .nil
  | n :: r, h => .cons (wk_nT (h n List.mem_cons_self)) (wks fun m hm => h m (List.mem_cons_of_mem _ hm))
set_option maxHeartbeats 0 in
theorem ok_read_op {f : Addr} {fd : FuncData} (F : Fun K "read_operation" "read_operation" s_read_operation f fd) (DN : DctA K w mg "NUMBERS" numsL) (DL : Df P w K mg base "read_line" 3 P_read_line spLine) : FnOk P w K mg base CX0 4 f fd P_read_operation spReadOp := by
  obtain ⟨fL, dL, gL, kL, bL, GL⟩ := DL
  obtain ⟨d, es, n0, hg, D, hk⟩ := DN.ex
  refine F.ok sc_read_operation (fun vs H Q E h => ?_) (fun cdv A outer s H vs Q E hr h => ?_)
  · obtain ⟨op, rfl, _⟩ := h
    rfl
  · obtain ⟨op, rfl, sm, q⟩ := h
    refine ⟨_, pss_cons (ps_set (i := 1) sc_read_operation.nd rfl (.inl rfl) (pe_ix ix_list (pe_split (pv 0) pe_str) pe_int (fun _ _ => rfl)))
      (pss_cons (ps_if (pt_cmpR (op_notIn_kd D) (pv 1) (pe_glob (v := .ref d) rfl hg rfl) rfl) (pss_one ps_never) pss_nil)
      (pss_cons (ps_set (i := 2) sc_read_operation.nd rfl (.inl rfl) (pe_call GL hr (by rfl) gL kL bL .nil pass0 (pa_cons (pv 0) (pa_cons (pv 1) (pa_cons (pe_ix ix_kdict (pe_glob (v := .ref d) rfl hg rfl) (pv 1) (fun _ _ => rfl)) pa_nil)))))
      (pss_cons (ps_if (pt_cmpR op_isN (pv 2) pe_non (nomark _)) (pss_one ps_never) pss_nil)
      (pss_cons (ps_if (pt_cmpR op_eq (pv 1) pe_str (nomark _)) (pss_one (ps_ret (pe_tup (pa_cons (pv 1) (pa_cons (pv 2) pa_nil))))) pss_nil)
      (pss_one (ps_ret (pe_op op_catA (pe_tup (pa_cons (pv 1) pa_nil)) (pv 2)))))))), ?_⟩
    have ll := len_op sm
    have nl := opNums_len op
    obtain ⟨tk, hn⟩ := hk _ (opWord_nums op)
    refine ⟨_, rfl, ⟨_, rfl⟩, opLine op, " ", rfl, rfl, rfl, by rw [sizeLine_eq]; omega, fun p np => ?_⟩
    rw [split_op sm]
    have s1 := same_upd (o := HO.lst ((opWord op :: (opNums op).map nT).map V.str)) np
    refine ⟨p, _, 0, .str (opWord op), rfl, rfl, SqL.of upd_same, atI_nat (j := 0) rfl, ?_⟩
    refine ⟨_, rfl, _, _, rfl, rfl, hn, false, rfl, iteF ?_⟩
    refine ⟨_, rfl, _, rfl, _, rfl, d, _, .int (opNums op).length, rfl, rfl, ⟨es, n0, _, D.at_, D.lit, hn, ⟨_, rfl⟩⟩, ?_⟩
    refine ⟨opLine op, opWord op, opWord op, (opNums op).length, (opNums op).map nT, (opNums op).map some, rfl, by omega, split_op sm, by rw [List.length_map]; omega, wks sm, fun H2 v s2 hv => ?_⟩
    rw [nums_row sm] at hv
    obtain ⟨u, rfl, nu, hu⟩ := hv
    have s12 := s1.trans s2
    have nuH : H u = none := s1.free nu
    refine ⟨_, rfl, rfl, _, rfl, iteF ?_⟩
    have eN : nints (opNums op) = (opNums op).map fun n => V.int (n : Nat) := rfl
    rw [eN] at hu
    rcases opn_of op with ⟨od, rfl⟩ | ⟨nadd, mk⟩
    · refine ⟨_, rfl, rfl, _, rfl, str_eqT ⟨_, rfl, _, rfl, (by show 2 ≤ sizeLine; decide), fun b nb => ?_⟩⟩
      have s3 := same_upd (o := HO.tup [.str (opWord (.add od)), .ref u]) nb
      exact q _ b (s12.trans s3) ⟨.ref u, upd_same, u, rfl, s3 _ _ hu⟩
    · refine ⟨_, rfl, rfl, _, rfl, str_eqF nadd ?_⟩
      refine ⟨_, rfl, (by show 1 ≤ sizeLine; decide), fun c nc => ?_⟩
      have s3 := same_upd (o := HO.tup [.str (opWord op)]) nc
      refine ⟨_, rfl, catA_case upd_same (s3 _ _ hu) (Nat.le_of_lt (small1000 (by rw [List.length_map]; show 1 + _ ≤ 1000; omega))) fun b H4 s4 hb => ?_⟩
      exact q _ b (s12.trans (s3.trans s4)) (mk _ _ hb)
set_option maxHeartbeats 0 in
theorem ok_read_ops {f : Addr} {fd : FuncData} (F : Fun K "read_operations" "read_operations" s_read_operations f fd) (B : Blt mg) (DR : Df P w K mg base "read_operation" 4 P_read_operation spReadOp) : FnOk P w K mg base CX0 5 f fd P_read_operations spReadOps := by
  obtain ⟨fR, dR, gR, kR, bR, GR⟩ := DR
  refine F.ok sc_read_operations (fun vs H Q E h => ?_) (fun cdv A outer s H vs Q E hr h => ?_)
  · obtain ⟨l, pre, ops, rfl, _⟩ := h
    rfl
  · obtain ⟨l, pre, ops, rfl, hl, pl, ol, sm, q⟩ := h
    refine ⟨_, pss_cons (ps_set (i := 2) sc_read_operations.nd rfl (.inl rfl) (pe_lst pa_nil))
      (pss_cons (ps_for PassesOwn.never rfl (pi_enumS (by rfl) B.enum (pa_cons (pe_slice sl_list (pv 0) (po_some (pv 1)) po_none) pa_nil) (pk_cons (pv 1) pk_nil)) (pg_tup (by rfl) (pgs_cons (pg_name (i := 3) sc_read_operations.nd rfl (.inl rfl)) (pgs_cons (pg_name (i := 4) sc_read_operations.nd rfl (.inl rfl)) pgs_nil)))
        (pss_cons (ps_set (i := 5) sc_read_operations.nd rfl (.inl rfl) (pe_call GR hr (by rfl) gR kR bR .nil pass0 (pa_cons (pv 4) pa_nil)))
        (pss_cons (ps_if (pt_cmpR op_isN (pv 5) pe_non (nomark _)) (pss_one ps_never) pss_nil)
        (pss_one (ps_expr (pe_bm PySem.F.plainAttrs_list PySem.F.slot_list_append PySem.F.type_list_append mt_append (pv 2) (pa_cons (pv 5) pa_nil)))))))
      (pss_one (ps_ret (pv 2)))), ?_⟩
    refine ⟨(by show 0 ≤ sizeLine; decide), fun r nr => ?_⟩
    have s1 := same_upd (o := HO.lst []) nr
    refine ⟨_, rfl, _, rfl, (pre.length : Nat), rfl, l, _, rfl, SqL.of (s1 _ _ hl), fun cl ncl => ?_⟩
    rw [show cutV ((pre ++ ops.map opLine).map V.str) (some ((pre.length : Nat) : Int)) none = ((ops.map opLine).map V.str) by rw [cut_from, List.map_append, List.drop_left' (by rw [List.length_map])]]
    have s2 := same_upd (o := HO.lst ((ops.map opLine).map V.str)) ncl
    have nrc : r ≠ cl := ne_of_none upd_same ncl
    refine ⟨_, rfl, cl, (pre.length : Nat), _, rfl, rfl, by omega, by omega, upd_same, ?_⟩
    refine for_enumS (K := K) (a := cl) (xs := (ops.map opLine).map V.str) (fun i σ H' => (∃ x3 x4 x5, σ = [some (.ref l), some (.int (pre.length : Nat)), some (.ref r), x3, x4, x5]) ∧ Same H H' ∧ H' cl = some (.lst ((ops.map opLine).map V.str)) ∧ OpsAt H' r (ops.take i))
      ⟨⟨_, _, _, rfl⟩, s1.trans s2, upd_same, [], s2 _ _ upd_same, .nil⟩ (fun i σ H' ⟨_, _, h', _⟩ => h') ?_ ?_
    · rintro i x σ H1 T hi ⟨⟨x3, x4, x5, rfl⟩, s3, hcl, rs, hr1, hR⟩ nT
      rw [List.getElem?_map, List.getElem?_map] at hi
      obtain ⟨ln, hln, rfl⟩ := Option.map_eq_some_iff.mp hi
      obtain ⟨op, hop, rfl⟩ := Option.map_eq_some_iff.mp hln
      have smo := sm _ (List.mem_of_getElem? hop)
      have s4 := same_upd (o := HO.tup [.int (((pre.length : Nat) : Int) + (i : Nat)), .str (opLine op)]) nT
      refine ⟨T, _, rfl, SqT.of upd_same, rfl, _, _, rfl, _, _, rfl, rfl, ?_⟩
      refine ⟨_, rfl, op, rfl, smo, fun H2 b s5 hb => ?_⟩
      have s45 := s4.trans s5
      have hr2 := s45 _ _ hr1
      have rl := hR.length
      rw [List.length_take] at rl
      refine ⟨_, rfl, rfl, _, rfl, iteF ⟨_, rfl, .inl ⟨rfl, _, SqL.of hr2⟩, _, rfl, r, _, _, rfl, rfl, hr2, small1000 (by omega), ?_⟩⟩
      have k := TupKeep.lst (o := HO.lst (rs ++ [.ref b])) hr2
      refine ⟨⟨_, _, _, rfl⟩, fun z ob e => ?_, (upd_ne nrc.symm).trans (s45 _ _ hcl), rs ++ [.ref b], upd_same, ?_⟩
      · rw [upd_ne (ne_of_none e nr)]
        exact s45 _ _ (s3 _ _ e)
      · rw [List.take_add_one, hop]
        refine Paired.snoc (Paired.mapP hR fun _ _ z => ?_) ⟨b, rfl, hb.keep k⟩
        obtain ⟨a, e, ha⟩ := z
        exact ⟨a, e, (ha.keep (tk_of s45)).keep k⟩
    · rintro σ H1 ⟨⟨x3, x4, x5, rfl⟩, s3, hcl, hO⟩
      rw [List.length_map, List.length_map, List.take_length] at hO
      exact ⟨_, rfl, q H1 r s3 nr hO⟩
def spParseSess (C : Addr) : Sp := fun vs H Q _ => ∃ (p h : Nat) (os : List Od) (ops : List Opn), vs = [.str (sessText p h os ops)] ∧ NetOk p h os ∧ ops.length ≤ 100 ∧ (∀ x t F sn, GoAll ⟨x, t, p, h, os, F, [], 0, sn⟩ ops) ∧ (∀ op ∈ ops, OpSm op) ∧
  ∀ H' r l, Same H H' → H r = none → H l = none → H' r = some (.tup [.str (textOf p h os), .ref l]) → OpsAt H' l ops → Q (.ref r) H'
set_option maxHeartbeats 0 in
theorem ok_parse_sess {f O C pP fP pR fR qT fT : Addr} {fd fdP fdR fdT : FuncData} (F : Fun K "parse_session" "parse_session" s_parse_session f fd) (B : Blt mg) (TN : NetT K C) (gO : mg "Office" = some (.ref O)) (rO : ClX.CRead K O (.type "type")) (cR : ClX.CMet K O (.type "type") "replay" pR fR) (GR : FnOk P w K mg base CX0 6 fR fdR P_Office_replay (spReplay O C)) (bR : Binds K fdR P_Office_replay [])
    (gC : mg "Net" = some (.ref C)) (rC : ClX.CRead K C (.type "type")) (cP : ClX.CMet K C (.type "type") "parse" pP fP) (GP : FnOk P w K mg base CX0 7 fP fdP P_Net_parse (spParse C)) (bP : Binds K fdP P_Net_parse [])
    (pT : PropOf K C "text" qT fT) (GT : FnOk P w K mg base CX0 2 fT fdT P_Net_text (spText C)) (bT : Binds K fdT P_Net_text []) (DR : Df P w K mg base "read_operations" 5 P_read_operations spReadOps) : FnOk P w K mg base CX0 8 f fd P_parse_session (spParseSess C) := by
  obtain ⟨fO, dO, gRO, kRO, bRO, GRO⟩ := DR
  have FR := GR.raw bR .nil
  have FP := GP.raw bP .nil
  refine F.ok sc_parse_session (fun vs H Q E h => ?_) (fun cdv A outer s H vs Q E hr h => ?_)
  · obtain ⟨p, h, os, ops, rfl, _⟩ := h
    rfl
  · obtain ⟨p, h, os, ops, rfl, nok, len, go, sm, q⟩ := h
    have hr6 : Room 6 _ := hr.mono (by decide)
    have hr5 : Room 5 _ := hr.mono (by decide)
    have hr3 : Room 3 _ := hr.mono (by decide)
    refine ⟨_, pss_cons (ps_if (pt_not (pt_val (pe_callB call_isi (by rfl) B.isi PyProof.Rows.boot_isinstance (pa_cons (pv 0) (pa_cons (pe_bltn (v := .ty "str") (by rfl) B.str (by decide +kernel) rfl) pa_nil))))) (pss_one ps_never) pss_nil)
      (pss_cons (ps_set (i := 1) sc_parse_session.nd rfl (.inl rfl) (pe_split (pv 0) pe_str))
      (pss_cons (ps_if (pt_cmpR op_notIn_seq pe_str (pv 1) rfl) (pss_one ps_never) pss_nil)
      (pss_cons (ps_set (i := 2) sc_parse_session.nd rfl (.inl rfl) (pe_op op_add (pe_bm PySem.F.plainAttrs_list PySem.F.slot_list_index PySem.F.type_list_index mt_index (pv 1) (pa_cons pe_str pa_nil)) pe_int))
      (pss_cons (ps_set (i := 3) sc_parse_session.nd rfl (.inl rfl) (ClX.pe_cmeth (pe_glob (v := .ref C) rfl gC rfl) rC cP FP hr pass0 (pa_cons (pe_join pe_str (pe_slice sl_list (pv 1) po_none (po_some (pe_op op_sub (pv 2) pe_int)))) pa_nil)))
      (pss_cons (ps_set (i := 4) sc_parse_session.nd rfl (.inl rfl) (pe_call GRO hr5 (by rfl) gRO kRO bRO .nil pass0 (pa_cons (pv 1) (pa_cons (pv 2) pa_nil))))
      (pss_cons (ps_expr (ClX.pe_cmeth (pe_glob (v := .ref O) rfl gO rfl) rO cR FR hr6 pass0 (pa_cons (pv 3) (pa_cons (pv 4) pa_nil))))
      (pss_one (ps_ret (pe_tup (pa_cons (pe_prop (pv 3) TN.cl pT GT hr3 bT .nil pass0 rfl) (pa_cons (pv 4) pa_nil))))))))))), ?_⟩
    have tl := len_sess nok sm len
    have ol := nok.len
    refine ⟨_, rfl, _, _, _, _, true, rfl, .ty "str", .base (.str _), kit_ty (by decide +kernel), _, rfl, iteF ?_⟩
    refine ⟨_, rfl, ⟨_, rfl⟩, _, "\n", rfl, rfl, rfl, by rw [sizeLine_eq]; omega, fun lp nlp => ?_⟩
    rw [split_sess nok sm]
    have s1 := same_upd (o := HO.lst ((sessLines p h os ops).map V.str)) nlp
    have hlp : (L2.upd H lp (.lst ((sessLines p h os ops).map V.str))) lp = some (.lst ((sessLines p h os ops).map V.str)) := upd_same
    generalize (L2.upd H lp (.lst ((sessLines p h os ops).map V.str))) = H1 at s1 hlp
    have eL : sessLines p h os ops = (linesOf p h os ++ [("changes" : Str)]) ++ ops.map opLine := by
      unfold sessLines
      rw [List.append_assoc]
      rfl
    have flat : ((sessLines p h os ops).map V.str).all flatV = true := by
      rw [List.all_map]
      exact List.all_eq_true.mpr fun _ _ => rfl
    have at1 : ((sessLines p h os ops).map V.str)[(linesOf p h os).length]? = some (.str "changes") := by
      rw [List.getElem?_map]
      unfold sessLines
      rw [List.getElem?_append_right (Nat.le_refl _), Nat.sub_self]
      rfl
    have eqs : ∀ x y : Str, eqV (.str x) (.str y) = decide (x = y) := fun x y => by
      show (x == y) = _
      by_cases c : x = y
      · subst c
        rw [decide_eq_true rfl]
        exact beq_self_eq_true x
      · rw [decide_eq_false c]
        exact beq_eq_false_iff_ne.mpr c
    have mem : inV (.str "changes") ((sessLines p h os ops).map V.str) = true := by
      unfold inV
      rw [List.any_map]
      refine List.any_eq_true.mpr ⟨"changes", ?_, ?_⟩
      · unfold sessLines
        simp
      · show eqV (.str "changes") (.str "changes") = true
        rw [eqs, decide_eq_true rfl]
    refine ⟨_, rfl, lp, _, rfl, .inl (SqL.of hlp), rfl, flat, _, rfl, ?_⟩
    rw [mem]
    refine iteF ?_
    refine ⟨_, rfl, .inl ⟨rfl, _, SqL.of hlp⟩, lp, _, .str "changes", (linesOf p h os).length, .str "changes", rfl, rfl, SqL.of hlp, rfl, flat, at1, by rw [eqs, decide_eq_true rfl], fun m z lt hz => ?_, ?_⟩
    · rw [List.getElem?_map] at hz
      obtain ⟨y, hy, rfl⟩ := Option.map_eq_some_iff.mp hz
      have hy : (linesOf p h os ++ ("changes" : Str) :: ops.map opLine)[m]? = some y := hy
      rw [List.getElem?_append_left lt] at hy
      rw [eqs]
      exact decide_eq_false (line_not_changes y (List.mem_of_getElem? hy))
    refine ⟨_, _, rfl, rfl, ?_⟩
    have ll : (linesOf p h os).length = os.length + 1 := linesOf_len
    refine ⟨rfl, ⟨_, rfl⟩, _, rfl, _, rfl, _, _, rfl, rfl, ((linesOf p h os).length : Nat), congrArg V.int (by omega), lp, _, rfl, SqL.of hlp, fun c nc => ?_⟩
    rw [show cutV ((sessLines p h os ops).map V.str) none (some (((linesOf p h os).length : Nat) : Int)) = (linesOf p h os).map V.str by
      rw [cut_to]
      show List.take _ (List.map V.str (linesOf p h os ++ _)) = _
      rw [List.map_append, List.take_left' (by rw [List.length_map])]]
    have s2 := s1.trans (same_upd (o := HO.lst ((linesOf p h os).map V.str)) nc)
    have hlp2 := (same_upd (o := HO.lst ((linesOf p h os).map V.str)) nc) _ _ hlp
    have hc : (L2.upd H1 c (.lst ((linesOf p h os).map V.str))) c = some (.lst ((linesOf p h os).map V.str)) := upd_same
    generalize (L2.upd H1 c (.lst ((linesOf p h os).map V.str))) = H2 at s2 hlp2 hc
    have nl1 : ("\n" : Str).length = 1 := by decide +kernel
    refine ⟨"\n", c, _, rfl, rfl, .inl (SqL.of hc), ?_, ?_⟩
    · have := lines_sum nok
      rw [nl1]
      omega
    refine ⟨p, h, os, rfl, nok, fun H3 x tt F s3 nF N => ?_⟩
    have hlp3 := s3 _ _ hlp2
    rw [eL] at hlp3
    refine ⟨_, rfl, _, rfl, lp, linesOf p h os ++ [("changes" : Str)], ops, ?_, hlp3, by rw [List.length_append]; show _ + 1 ≤ 100; omega, len, sm, fun H4 r s4 nr hO => ?_⟩
    · rw [List.length_append]
      rfl
    have s24 := s2.trans (s3.trans s4)
    refine ⟨rfl, _, rfl, _, rfl, x, r, tt, p, h, os, F, ops, rfl, N.same s4, hO, len, go x tt F, fun H5 o sn s5 no nsn A5 Sn5 => ?_⟩
    have N5 := N.same (s4.trans s5)
    obtain ⟨dxn, fln, asn, _, hx5, _⟩ := id N5
    refine ⟨_, rfl, x, dxn, _, rfl, hx5, x, tt, p, h, os, F, rfl, N5, nok, fun H6 s6 => ?_⟩
    refine ⟨_, rfl, (by show 2 ≤ sizeLine; decide), fun z nz => ?_⟩
    have s7 := same_upd (o := HO.tup [.str (textOf p h os), .ref r]) nz
    have s57 := s5.trans (s6.trans s7)
    exact q _ z r (s24.trans s57) ((s24.trans (s5.trans s6)).free nz) ((s2.trans s3).free nr) upd_same (hO.keep (tk_of s57) fun _ e => s57 _ _ e)
end
/-! ### the law's own books of an office: what is past and what is undone -/
abbrev Ent := Str × List Od
structure WSt where
  cur : List Od
  past : List Ent
  und : List (Ent × List Od)
def lastO (o : List Od) (st : List Stp) : List Od := (st.getLast?.map (·.2)).getD o
def pastL : List Od → List Stp → List Ent
  | _, [] => []
  | o, x :: r => (x.1, o) :: pastL x.2 r
def undL : List Od → List Stp → List (Ent × List Od)
  | _, [] => []
  | o, x :: r => ((x.1, o), x.2) :: undL x.2 r
theorem lastO_cons {o : List Od} {x : Stp} {r : List Stp} : lastO o (x :: r) = lastO x.2 r := by
  unfold lastO
  cases r with
  | nil => rfl
  | cons y r => rw [List.getLast?_cons_cons]; cases h : (y :: r).getLast? with
    | none => simp at h
    | some z => rfl
theorem lastO_snoc {o : List Od} {x : Stp} {a : List Stp} : lastO o (a ++ [x]) = x.2 := by
  unfold lastO
  rw [List.getLast?_concat]
  rfl
theorem pastL_snoc : ∀ {a : List Stp} {o : List Od} {x : Stp}, pastL o (a ++ [x]) = pastL o a ++ [(x.1, lastO o a)]
  | [], _, _ => rfl
  | y :: a, o, x => by
    show (y.1, o) :: pastL y.2 (a ++ [x]) = (y.1, o) :: (pastL y.2 a ++ [(x.1, lastO o (y :: a))])
    rw [pastL_snoc, lastO_cons]
theorem pastL_len : ∀ {a : List Stp} {o : List Od}, (pastL o a).length = a.length
  | [], _ => rfl
  | _ :: a, _ => congrArg (· + 1) (pastL_len (a := a))
theorem undL_len : ∀ {a : List Stp} {o : List Od}, (undL o a).length = a.length
  | [], _ => rfl
  | _ :: a, _ => congrArg (· + 1) (undL_len (a := a))
theorem pastL_words : ∀ {a : List Stp} {o : List Od}, (pastL o a).map (·.1) = a.map (·.1)
  | [], _ => rfl
  | x :: a, _ => congrArg (x.1 :: ·) (pastL_words (a := a))
theorem curO_last {os : List Od} {st : List Stp} {e : Nat} (h : e ≤ st.length) : curO os st e = lastO os (st.take e) := by
  unfold curO lastO
  cases e with
  | zero => rfl
  | succ e =>
    rw [if_neg (Nat.succ_ne_zero e), Nat.succ_sub_one, List.getLast?_take]
    have lt : e < st.length := h
    simp [List.getElem?_eq_getElem lt]
def OffS.books (S : OffS) : WSt := ⟨S.cur, pastL S.os (S.st.take S.e), (undL S.cur (S.st.drop S.e)).reverse⟩
theorem books_step {S : OffS} {w : Str} {os : List Od} (h : S.e ≤ S.st.length) : (S.step w os).books = ⟨os, S.books.past ++ [(w, S.cur)], []⟩ := by
  have l1 : (S.st.take S.e).length = S.e := by rw [List.length_take]; exact Nat.min_eq_left h
  have e1 : (S.st.take S.e ++ [(w, os)]).take (S.e + 1) = S.st.take S.e ++ [(w, os)] := List.take_of_length_le (by rw [List.length_append, l1]; exact Nat.le_refl _)
  have e2 : (S.st.take S.e ++ [(w, os)]).drop (S.e + 1) = [] := List.drop_of_length_le (by rw [List.length_append, l1]; exact Nat.le_refl _)
  have c1 : (S.step w os).cur = os := by
    show curO S.os (S.st.take S.e ++ [(w, os)]) (S.e + 1) = os
    rw [curO_last (by rw [List.length_append, l1]; exact Nat.le_refl _), e1, lastO_snoc]
  show WSt.mk (S.step w os).cur (pastL S.os ((S.st.take S.e ++ [(w, os)]).take (S.e + 1))) ((undL (S.step w os).cur ((S.st.take S.e ++ [(w, os)]).drop (S.e + 1))).reverse) = _
  rw [e1, e2, pastL_snoc, c1]
  show WSt.mk os (pastL S.os (S.st.take S.e) ++ [(w, lastO S.os (S.st.take S.e))]) [] = _
  rw [← curO_last h]
  rfl
theorem books_undo {S : OffS} (h : S.e ≤ S.st.length) (h0 : S.e ≠ 0) : ∃ (en : Ent), S.books.past = pastL S.os (S.st.take (S.e - 1)) ++ [en] ∧ ({ S with e := S.e - 1 } : OffS).books = ⟨en.2, pastL S.os (S.st.take (S.e - 1)), S.books.und ++ [(en, S.cur)]⟩ := by
  obtain ⟨e, he⟩ : ∃ e, S.e = e + 1 := ⟨S.e - 1, by omega⟩
  have lt : e < S.st.length := by omega
  have e1 : S.st.take S.e = S.st.take e ++ [S.st[e]] := by rw [he, List.take_add_one, List.getElem?_eq_getElem lt]; rfl
  have e2 : S.st.drop e = S.st[e] :: S.st.drop S.e := by rw [he]; exact List.drop_eq_getElem_cons lt
  have c : S.cur = (S.st[e]).2 := by
    show curO S.os S.st S.e = _
    rw [curO_last h, e1, lastO_snoc]
  have c1 : ({ S with e := S.e - 1 } : OffS).cur = lastO S.os (S.st.take e) := by
    show curO S.os S.st (S.e - 1) = _
    rw [he, Nat.add_sub_cancel, curO_last (by omega)]
  refine ⟨((S.st[e]).1, lastO S.os (S.st.take e)), ?_, ?_⟩
  · show pastL S.os (S.st.take S.e) = _
    rw [e1, pastL_snoc, he, Nat.add_sub_cancel]
  · show WSt.mk ({ S with e := S.e - 1 } : OffS).cur (pastL S.os (S.st.take (S.e - 1))) (undL ({ S with e := S.e - 1 } : OffS).cur (S.st.drop (S.e - 1))).reverse = WSt.mk (lastO S.os (S.st.take e)) (pastL S.os (S.st.take (S.e - 1))) ((undL S.cur (S.st.drop S.e)).reverse ++ [(((S.st[e]).1, lastO S.os (S.st.take e)), S.cur)])
    rw [c1, show S.e - 1 = e by omega, e2]
    show WSt.mk _ _ ((((S.st[e]).1, lastO S.os (S.st.take e)), (S.st[e]).2) :: undL (S.st[e]).2 (S.st.drop S.e)).reverse = _
    rw [List.reverse_cons, c]
theorem books_redo {S : OffS} (h : S.e < S.st.length) : ∃ (x : Ent × List Od), S.books.und = (undL x.2 (S.st.drop (S.e + 1))).reverse ++ [x] ∧ ({ S with e := S.e + 1 } : OffS).books = ⟨x.2, S.books.past ++ [x.1], (undL x.2 (S.st.drop (S.e + 1))).reverse⟩ := by
  have e1 : S.st.take (S.e + 1) = S.st.take S.e ++ [S.st[S.e]] := by rw [List.take_add_one, List.getElem?_eq_getElem h]; rfl
  have e2 : S.st.drop S.e = S.st[S.e] :: S.st.drop (S.e + 1) := List.drop_eq_getElem_cons h
  have c : S.cur = lastO S.os (S.st.take S.e) := curO_last (Nat.le_of_lt h)
  have c1 : ({ S with e := S.e + 1 } : OffS).cur = (S.st[S.e]).2 := by
    show curO S.os S.st (S.e + 1) = _
    rw [curO_last h, e1, lastO_snoc]
  refine ⟨(((S.st[S.e]).1, S.cur), (S.st[S.e]).2), ?_, ?_⟩
  · show (undL S.cur (S.st.drop S.e)).reverse = _
    rw [e2]
    show (((((S.st[S.e]).1, S.cur), (S.st[S.e]).2)) :: undL (S.st[S.e]).2 (S.st.drop (S.e + 1))).reverse = _
    rw [List.reverse_cons]
  · show WSt.mk ({ S with e := S.e + 1 } : OffS).cur (pastL S.os (S.st.take (S.e + 1))) (undL ({ S with e := S.e + 1 } : OffS).cur (S.st.drop (S.e + 1))).reverse = _
    rw [c1, e1, pastL_snoc, ← c]
    rfl
theorem books_past_nil {S : OffS} (h : S.e ≤ S.st.length) : S.books.past = [] ↔ S.e = 0 := by
  have : S.books.past.length = S.e := by
    show (pastL S.os (S.st.take S.e)).length = _
    rw [pastL_len, List.length_take, Nat.min_eq_left h]
  rw [← List.length_eq_zero_iff, this]
theorem books_und_nil {S : OffS} (h : S.e ≤ S.st.length) : S.books.und = [] ↔ S.e = S.st.length := by
  have : S.books.und.length = S.st.length - S.e := by
    show (undL S.cur (S.st.drop S.e)).reverse.length = _
    rw [List.length_reverse, undL_len, List.length_drop]
  rw [← List.length_eq_zero_iff, this]
  omega
/-! ### on the heap -/
def EnAt (p h : Nat) (H : Hp) (v : V) (e : Ent) : Prop := ∃ u a, v = .ref u ∧ H u = some (.tup [.str e.1, .ref a]) ∧ PartsAt H a p h e.2
def UnAt (p h : Nat) (H : Hp) (v : V) (x : Ent × List Od) : Prop := ∃ u y a, v = .ref u ∧ H u = some (.tup [y, .ref a]) ∧ EnAt p h H y x.1 ∧ PartsAt H a p h x.2
theorem EnAt.keep {p h : Nat} {H H' : Hp} {v : V} {e : Ent} (k : TupKeep H H') (q : EnAt p h H v e) : EnAt p h H' v e := by
  obtain ⟨u, a, e1, h1, h2⟩ := q
  exact ⟨u, a, e1, k _ _ h1, h2.keep k⟩
theorem UnAt.keep {p h : Nat} {H H' : Hp} {v : V} {e : Ent × List Od} (k : TupKeep H H') (q : UnAt p h H v e) : UnAt p h H' v e := by
  obtain ⟨u, y, a, e1, h1, h2, h3⟩ := q
  exact ⟨u, y, a, e1, k _ _ h1, h2.keep k, h3.keep k⟩
structure WV (p h : Nat) (H : Hp) (l : Addr) (W : WSt) (a q u : Addr) (qs us : List V) : Prop where
  at_ : H l = some (.lst [.ref a, .ref q, .ref u])
  parts : PartsAt H a p h W.cur
  q : H q = some (.lst qs)
  past : Paired (EnAt p h H) qs W.past
  u : H u = some (.lst us)
  und : Paired (UnAt p h H) us W.und
theorem WV.same {p h : Nat} {H H' : Hp} {l a q u : Addr} {W : WSt} {qs us : List V} (w : WV p h H l W a q u qs us) (s : Same H H') : WV p h H' l W a q u qs us :=
  ⟨s _ _ w.at_, w.parts.keep (tk_of s), s _ _ w.q, Paired.mapP w.past fun _ _ z => z.keep (tk_of s), s _ _ w.u, Paired.mapP w.und fun _ _ z => z.keep (tk_of s)⟩
theorem dl_not {H : Hp} {d r : Addr} {vs : List V} (D : DAt H d) (h : H r = some (.lst vs)) (hv : ∀ v ∈ vs, ∃ u, v = .ref u) : r ≠ d := fun z => by
  subst z
  obtain ⟨s, c, r', _, _, hd⟩ := D
  rw [hd] at h
  have e : DL s c r' = vs := HO.lst.inj (Option.some.inj h)
  obtain ⟨u, hu⟩ := hv (.int s) (by rw [← e]; exact List.mem_cons_self)
  cases hu
theorem pair_refs {α : Type} {F : V → α → Prop} (hF : ∀ v a, F v a → ∃ u, v = .ref u) : ∀ {vs : List V} {l : List α}, Paired F vs l → ∀ v ∈ vs, ∃ u, v = .ref u
  | _, _, .nil, v, h => by cases h
  | _, _, .cons r t, v, h => by
    rcases List.mem_cons.mp h with rfl | z
    · exact hF _ _ r
    · exact pair_refs hF t v z
theorem WV.but {p h : Nat} {H H' : Hp} {d l a q u : Addr} {W : WSt} {qs us : List V} (w : WV p h H l W a q u qs us) (b : But d H H') (D : DAt H d) : WV p h H' l W a q u qs us := by
  have k := b.tk D
  refine ⟨b _ _ (dl_not D w.at_ fun v m => ?_) w.at_, w.parts.keep k, b _ _ (dl_not D w.q (pair_refs (fun v e z => ?_) w.past)) w.q, Paired.mapP w.past fun _ _ z => z.keep k, b _ _ (dl_not D w.u (pair_refs (fun v e z => ?_) w.und)) w.u, Paired.mapP w.und fun _ _ z => z.keep k⟩
  · simp only [List.mem_cons, List.not_mem_nil, or_false] at m
    rcases m with rfl | rfl | rfl <;> exact ⟨_, rfl⟩
  · obtain ⟨u', _, e1, _⟩ := z
    exact ⟨u', e1⟩
  · obtain ⟨u', _, _, e1, _⟩ := z
    exact ⟨u', e1⟩
theorem same_bk {H H' : Hp} {a : Addr} (s : Same H H') (n : H' a = none) : H a = none := by
  cases e : H a with
  | none => rfl
  | some o => rw [s _ _ e] at n; cases n
/-! ### an office and the law's books go on together -/
structure OkS (p h : Nat) (S : OffS) : Prop where
  pe : S.p = p
  he : S.h = h
  e : S.e ≤ S.st.length
  os : NetOk p h S.os
  st : ∀ s ∈ S.st, NetOk p h s.2 ∧ PyData.strOk s.1 = true
theorem OkS.cur {p h : Nat} {S : OffS} (k : OkS p h S) : NetOk p h S.cur := by
  show NetOk p h (curO S.os S.st S.e)
  unfold curO
  by_cases c : S.e = 0
  · rw [if_pos c]
    exact k.os
  · rw [if_neg c]
    have lt : S.e - 1 < S.st.length := by have := k.e; omega
    rw [List.getElem?_eq_getElem lt]
    exact (k.st _ (List.getElem_mem lt)).1
theorem OkS.step {p h : Nat} {S : OffS} {w : Str} {os : List Od} (k : OkS p h S) (ho : NetOk p h os) (hw : PyData.strOk w = true) : OkS p h (S.step w os) := by
  refine ⟨k.pe, k.he, ?_, k.os, fun s hs => ?_⟩
  · show S.e + 1 ≤ (S.st.take S.e ++ [(w, os)]).length
    rw [List.length_append, List.length_take, Nat.min_eq_left k.e]
    exact Nat.le_refl _
  · rcases List.mem_append.mp (show s ∈ S.st.take S.e ++ [(w, os)] from hs) with z | z
    · exact k.st s (List.mem_of_mem_take z)
    · rw [List.mem_singleton.mp z]
      exact ⟨ho, hw⟩
theorem setOd_ok {p h k : Nat} {os : List Od} {od : Od} (ok : NetOk p h os) (lt : k < os.length) (ho : OdOk p h od) : NetOk p h (setOd os k od) := by
  refine ⟨ok.p1, ok.p30, ok.h1, ok.h10, ?_, fun o z => ?_⟩
  · show (os.take k ++ [od] ++ os.drop (k + 1)).length ≤ 20
    have := ok.len
    rw [List.length_append, List.length_append, List.length_take, List.length_drop, List.length_singleton]
    omega
  · rcases List.mem_append.mp (show o ∈ os.take k ++ [od] ++ os.drop (k + 1) from z) with z | z
    · rcases List.mem_append.mp z with z | z
      · exact ok.ok o (List.mem_of_mem_take z)
      · rw [List.mem_singleton.mp z]
        exact ho
    · exact ok.ok o (List.mem_of_mem_drop z)
/-! ### operations as a law draws them, as an office takes them -/
theorem sky_zc {B : Heap} {l : List Env} {a : Addr} {cls : Value} {d : Option Addr} {L : Addr} {h : Heap} (x : Sky B l a (L2N.Zn cls d) L h) : Sky B l a (Zc cls d) L h := by
  rcases x with ⟨g1, g2, g3, oe, vs, e, z, dd, v⟩ | x | ⟨g1, g2, g3, x⟩
  · exact .inl ⟨g1, g2, g3, oe, vs, e, z.zc, dd, v⟩
  · exact .inr (.inl (L2H.flyingZ_imp (fun o z => z.zc) x))
  · exact .inr (.inr ⟨g1, g2, g3, L2H.tracedZ_imp (fun o z => z.zc) x⟩)
theorem takes_n {X : Cx} {W : WX} (tk : Takes X W) : L2N.Takes X W := fun u s' ⟨a, B, sI, pins, σ, H, cls, d, e, I, nb, up, sky, na, os, ag, w⟩ => tk u s' ⟨a, B, sI, pins, σ, H, cls, d, e, I, nb, up, sky_zc sky, na, os, ag, w⟩
/-- an operation by its word and the number of its arguments -/
def SeqOp (H : Hp) (a : Addr) : Prop := ∃ (w : Str) (r : List V), H a = some (.tup (.str w :: r)) ∧ (w, ((r.length : Nat) : Int)) ∈ argsL
theorem SeqOp.keep {H H' : Hp} {a : Addr} (k : TupKeep H H') (h : SeqOp H a) : SeqOp H' a := by
  obtain ⟨w, r, h1, h2⟩ := h
  exact ⟨w, r, k _ _ h1, h2⟩
theorem OpIAt.seq {H : Hp} {a : Addr} {op : OpI} (h : OpIAt H a op) : SeqOp H a := by
  cases op with
  | add od => obtain ⟨v, hv, _⟩ := h; exact ⟨_, _, hv, by show (("add" : Str), (1 : Int)) ∈ argsL; simp [argsL]⟩
  | cancel k => exact ⟨_, _, h, by show (("cancel" : Str), (1 : Int)) ∈ argsL; simp [argsL]⟩
  | prolong k n => exact ⟨_, _, h, by show (("prolong" : Str), (2 : Int)) ∈ argsL; simp [argsL]⟩
  | rais k => exact ⟨_, _, h, by show (("raise" : Str), (1 : Int)) ∈ argsL; simp [argsL]⟩
  | undo => exact ⟨_, _, h, by show (("undo" : Str), (0 : Int)) ∈ argsL; simp [argsL]⟩
  | redo => exact ⟨_, _, h, by show (("redo" : Str), (0 : Int)) ∈ argsL; simp [argsL]⟩
def spIsOpnG : Sp := fun vs H Q _ => ∃ (a : Addr), vs = [.ref a] ∧ SeqOp H a ∧ Q (.bl true) H
section
variable {P : Program} {w : World} {K : PySem.W.Frag} {mg : Str → Option Value} {base : Heap}
theorem ok_is_opnG {f : Addr} {fd : FuncData} (F : Fun K "is_operation" "is_operation" s_is_operation f fd) (B : Blt mg) (DA : DctA K w mg "ARGUMENTS" argsL) : FnOk P w K mg base CX0 1 f fd P_is_operation spIsOpnG := by
  obtain ⟨d, es, n, hg, D, hk⟩ := DA.ex
  refine F.ok sc_is_operation (fun vs H Q E h => ?_) (fun cdv A outer s H vs Q E hr h => ?_)
  · obtain ⟨a, rfl, _⟩ := h
    rfl
  · obtain ⟨a, rfl, ha, q⟩ := h
    refine ⟨_, pss_cons (ps_if (PW.pt (pw_or (pt_not (pt_val (pe_callB call_isi (by rfl) B.isi PyProof.Rows.boot_isinstance (pa_cons (pv 0) (pa_cons (pe_bltn (v := .ty "tuple") (by rfl) B.tuple (by decide +kernel) rfl) pa_nil)))))
        (pw_or (pt_cmpR op_eq (pe_callB call_len_seq (by rfl) B.len PySem.boot_len (pa_cons (pv 0) pa_nil)) pe_int (nomark _))
        (pw_or1 (pt_not (pt_val (pe_callB call_isi (by rfl) B.isi PyProof.Rows.boot_isinstance (pa_cons (pe_ix ix_tup (pv 0) pe_int (fun _ _ => rfl)) (pa_cons (pe_bltn (v := .ty "str") (by rfl) B.str (by decide +kernel) rfl) pa_nil))))))))) (pss_one (ps_ret pe_bl)) pss_nil)
      (pss_one (ps_ret (pe_and (pe_cmpR (op_in_kd D) (pe_ix ix_tup (pv 0) pe_int (fun _ _ => rfl)) (pe_glob (v := .ref d) rfl hg rfl) rfl)
        (pe_one (pe_cmpR op_eq (pe_op op_sub (pe_callB call_len_seq (by rfl) B.len PySem.boot_len (pa_cons (pv 0) pa_nil)) pe_int) (pe_ix ix_kdict (pe_glob (v := .ref d) rfl hg rfl) (pe_ix ix_tup (pv 0) pe_int (fun _ _ => rfl)) (fun _ _ => rfl)) (nomark _)))))), ?_⟩
    obtain ⟨wd, r, hr2, hm⟩ := ha
    obtain ⟨tk, hn⟩ := hk _ hm
    refine ⟨_, rfl, _, _, _, _, true, rfl, .ty "tuple", .base (.tup hr2), kit_ty (by decide +kernel), _, rfl, iteF ⟨_, rfl, a, _, rfl, .inr (SqT.of hr2), rfl, false, congrArg V.bl (decide_eq_false (fun z => ?_)), iteF ⟨_, rfl, a, _, 0, _, rfl, rfl, SqT.of hr2, atI_nat (j := 0) rfl, _, _, _, _, true, rfl, .ty "str", .base (.str _), kit_ty (by decide +kernel), _, rfl, iteF ?_⟩⟩⟩
    · have := V.int.inj z
      rw [List.length_cons] at this
      omega
    refine ⟨_, rfl, a, _, 0, _, rfl, rfl, SqT.of hr2, atI_nat (j := 0) rfl, _, _, rfl, rfl, hn, true, rfl, iteT ?_⟩
    refine ⟨_, rfl, a, _, rfl, .inr (SqT.of hr2), _, _, rfl, rfl, _, rfl, a, _, 0, _, rfl, rfl, SqT.of hr2, atI_nat (j := 0) rfl, d, _, .int (r.length : Nat), rfl, rfl, ⟨es, n, _, D.at_, D.lit, hn, ⟨_, rfl⟩⟩, ?_⟩
    refine ⟨rfl, ?_⟩
    have e : V.int (((V.str wd :: r).length : Nat) - 1) = V.int (r.length : Nat) := congrArg V.int (by rw [List.length_cons]; omega)
    show Q (.bl (decide (V.int (((V.str wd :: r).length : Nat) - 1) = V.int (r.length : Nat)))) H
    rw [e, decide_eq_true rfl]
    exact q
end
theorem nextAll_st : ∀ (ops : List Opn) (S : OffS), (nextAll S ops).x = S.x ∧ (nextAll S ops).sn = S.sn
  | [], _ => ⟨rfl, rfl⟩
  | op :: r, S => by
    have g : (nextO S op).x = S.x ∧ (nextO S op).sn = S.sn := by cases op <;> exact ⟨rfl, rfl⟩
    have h := nextAll_st r (nextO S op)
    exact ⟨h.1.trans g.1, h.2.trans g.2⟩
/-- operations as a law draws them -/
def OpsIAt (H : Hp) (l : Addr) (ops : List OpI) : Prop := ∃ xs, H l = some (.lst xs) ∧ Paired (fun v op => ∃ a, v = .ref a ∧ OpIAt H a op) xs ops
def toNs (ops : List OpI) : List Opn := ops.map OpI.toN
/-- an operation that an office can execute -/
def OpRun (S : OffS) (op : OpI) : Prop := OpnOk S op.toN ∧ (∀ i, op = .cancel i ∨ op = .rais i → 0 ≤ i) ∧ (∀ i n, op = .prolong i n → 0 ≤ i)
/-! ### offices that are alike: what they do is the same -/
structure Lk (S S' : OffS) : Prop where
  pe : S'.p = S.p
  he : S'.h = S.h
  os : S'.os = S.os
  st : S'.st = S.st
  e : S'.e = S.e
theorem Lk.next {S S' : OffS} (k : Lk S S') (op : Opn) : Lk (nextO S op) (nextO S' op) := by
  obtain ⟨x, t, p, h, os, F, st, e, sn⟩ := S
  obtain ⟨x', t', p', h', os', F', st', e', sn'⟩ := S'
  obtain ⟨e1, e2, e3, e4, e5⟩ := k
  have e1 : p' = p := e1
  have e2 : h' = h := e2
  have e3 : os' = os := e3
  have e4 : st' = st := e4
  have e5 : e' = e := e5
  subst e1 e2 e3 e4 e5
  cases op <;> exact ⟨rfl, rfl, rfl, rfl, rfl⟩
theorem Lk.all : ∀ (ops : List Opn) {S S' : OffS}, Lk S S' → Lk (nextAll S ops) (nextAll S' ops)
  | [], _, _, k => k
  | op :: r, _, _, k => Lk.all r (k.next op)
theorem Lk.cur {S S' : OffS} (k : Lk S S') : S'.cur = S.cur := by
  show curO S'.os S'.st S'.e = curO S.os S.st S.e
  rw [k.os, k.st, k.e]
theorem Lk.run {S S' : OffS} {op : OpI} (k : Lk S S') (r : OpRun S op) : OpRun S' op := by
  refine ⟨?_, r.2⟩
  have g := r.1
  obtain ⟨x, t, p, h, os, F, st, e, sn⟩ := S
  obtain ⟨x', t', p', h', os', F', st', e', sn'⟩ := S'
  obtain ⟨e1, e2, e3, e4, e5⟩ := k
  have e1 : p' = p := e1
  have e2 : h' = h := e2
  have e3 : os' = os := e3
  have e4 : st' = st := e4
  have e5 : e' = e := e5
  subst e1 e2 e3 e4 e5
  cases op <;> exact g
theorem Lk.ok {p h : Nat} {S S' : OffS} (k : Lk S S') (o : OkS p h S) : OkS p h S' :=
  ⟨k.pe.trans o.pe, k.he.trans o.he, by rw [k.e, k.st]; exact o.e, by rw [k.os]; exact o.os, by rw [k.st]; exact o.st⟩
/-! ### words of texts that a law makes: plain mathematics -/
theorem lc_str {x : Str} {g : TG} {tt : TT} {te : TE} {vs : List Nat} {σ : L2.St} {H1 : Hp} {D : Addr} {Qd : Hp → Prop} (Pv : Nat → Hp → Prop) (h0 : Pv 0 (upd H1 D (.lst [])))
    (hs : ∀ i c H, x.cps[i]? = some c → Pv i H → g (.str ⟨#[c]⟩) (wipe σ vs) H fun σ2 H2 => wipe σ2 vs = wipe σ vs ∧ tt σ2 H2 fun b H3 =>
      if b = true then te σ2 H3 fun y H4 => ∃ acc, H4 D = some (.lst acc) ∧ acc.length < sizeLine ∧ Pv (i + 1) (upd H4 D (.lst (acc ++ [y]))) else Pv (i + 1) H3) (hd : ∀ H, Pv x.cps.size H → Qd H) :
    ∃ W : Nat → Nat → Hp → Prop, (∃ m, W 0 m (upd H1 D (.lst []))) ∧ ∀ i m H, W i m H →
      ((Its x).stop i H ∧ Qd H) ∨ ((Its x).go i H ∧ ∃ Nx : Hp → Prop, (∀ H', Nx H' → ∃ m', m' < m ∧ W (i + 1) m' H') ∧ ∀ v H', (Its x).yld i H v H' → g v (wipe σ vs) H' fun σ2 H2 => wipe σ2 vs = wipe σ vs ∧ tt σ2 H2 fun b H3 =>
        if b = true then te σ2 H3 fun y H4 => ∃ acc, H4 D = some (.lst acc) ∧ acc.length < sizeLine ∧ Nx (upd H4 D (.lst (acc ++ [y]))) else Nx H3) := by
  refine ⟨fun i m H => m = x.cps.size - i ∧ i ≤ x.cps.size ∧ Pv i H, ⟨x.cps.size, by simp, Nat.zero_le _, h0⟩, ?_⟩
  rintro i m H ⟨rfl, hi, p⟩
  by_cases hlt : i < x.cps.size
  · refine .inr ⟨hlt, Pv (i + 1), fun H' p' => ⟨x.cps.size - (i + 1), by omega, rfl, hlt, p'⟩, fun v H' y => ?_⟩
    obtain ⟨e, c, hc, rfl⟩ := y
    subst e
    exact hs i c _ hc p
  · have e : i = x.cps.size := by omega
    subst e
    exact .inl ⟨Nat.le_refl _, hd H p⟩
theorem listD_nil (ds : List PyData) : PyData.eqv (.list ds) (.list []) = decide (ds = []) := by
  cases ds with
  | nil => simp [PyData.eqv, PyData.eqvAll]
  | cons x r => simp [PyData.eqv, PyData.eqvAll]
def strsD (ws : List Str) : PyData := .list (ws.map PyData.str)
theorem strsD_shaped {ws : List Str} (h : ∀ w ∈ ws, PyData.strOk w = true) : PySem.SeqAt.shaped (strsD ws) = true := by
  have h1 : PyData.canLayAll0 (ws.map PyData.str) = true := by
    induction ws with
    | nil => rfl
    | cons w r ih =>
      simp [PyData.canLayAll0, PyData.canLay0, h w (List.mem_cons_self ..), ih fun z hz => h z (List.mem_cons_of_mem _ hz)]
  have h2 : PyData.depthAll (ws.map PyData.str) = 0 := by
    clear h1 h
    induction ws with
    | nil => rfl
    | cons w r ih => simp [PyData.depthAll, PyData.depth, ih]
  simp [strsD, PySem.SeqAt.shaped, PyData.canLay0, PyData.depth, h1, h2]
theorem strs_dp {K : PySem.W.Frag} {H : Hp} {a : Addr} {ws : List Str} (h : H a = some (.lst (ws.map V.str))) : Dp K H (.ref a) (strsD ws) := by
  refine .lst (SqL.of h) ?_
  clear h
  induction ws with
  | nil => exact .nil
  | cons w r ih => exact .cons (.str w) ih
/-- a sign that is no digit, as the law says it -/
def oddC (c : Nat) : Bool := !(!(Builtin.Str.occurrences "0123456789" ⟨#[c]⟩ 0 ("0123456789" : Str).length 1).isEmpty)
def oddL (l : List Nat) : List Str := (l.filter oddC).map fun c => ⟨#[c]⟩
def lawNum (w : Str) : Bool := (decide ((1 : Int) ≤ w.length) && decide ((w.length : Int) ≤ 3)) && ((oddL w.cps.toList).isEmpty && (decide (w = "0") || !decide (w.cps.toList.head? = some 48)))
def valW (w : Str) : Option Nat := if numB w = true then (PySem.intText? w).map Int.toNat else none
/-- a word that a law may write: all that is asked of it is decided -/
def wOk (w : Str) : Bool := (lawNum w == numB w) && (numB w == (valW w).isSome) && decide (w.length ≤ 10) && w.cps.toList.all (fun c => decide (33 ≤ c ∧ c < 0x110000)) && (match valW w with
  | some n => decide (PySem.intText? w = some (n : Int)) && decide (n ≤ 999) && (decide (30 < n) || decide (nT n = w))
  | none => true)
structure WG (w : Str) : Prop where
  law : lawNum w = numB w
  wk : Wk w (valW w)
  len : w.length ≤ 10
  pl : Plain w
  ok : PyData.strOk w = true
  nT : ∀ n, valW w = some n → n ≤ 30 → nT n = w
  v999 : ∀ n, valW w = some n → n ≤ 999
theorem wg_of {w : Str} (h : wOk w = true) : WG w := by
  unfold wOk at h
  simp only [Bool.and_eq_true] at h
  obtain ⟨⟨⟨⟨h1, h2⟩, h3⟩, h4⟩, h5⟩ := h
  have h1 : lawNum w = numB w := by simpa using h1
  have h2 : numB w = (valW w).isSome := by simpa using h2
  have h3 := of_decide_eq_true h3
  have h4 : ∀ c ∈ w.cps.toList, 33 ≤ c ∧ c < 0x110000 := fun c hc => of_decide_eq_true (List.all_eq_true.mp h4 c hc)
  refine ⟨h1, ⟨h2, fun n e => ?_, by omega⟩, h3, fun c hc => (h4 c hc).1, ?_, fun n e l => ?_, fun n e => ?_⟩
  · rw [e] at h5
    simp only [Bool.and_eq_true] at h5
    exact of_decide_eq_true h5.1.1
  · show w.cps.all (· < 0x110000) = true
    rw [← Array.all_toList, List.all_eq_true]
    exact fun c hc => decide_eq_true (h4 c hc).2
  · rw [e] at h5
    simp only [Bool.and_eq_true, Bool.or_eq_true] at h5
    rcases h5.2 with z | z
    · have := of_decide_eq_true z
      omega
    · exact of_decide_eq_true z
  · rw [e] at h5
    simp only [Bool.and_eq_true] at h5
    exact of_decide_eq_true h5.1.2
/-- the first words that these laws write -/
def WL : List Str := ["", "07", "5", "1000", "999", "-1", "x", "order", "net", "+1", "1.0", "0", "00", "01", "1", "2", "3", "4", "9"]
theorem wl_all : WL.all wOk = true := by decide +kernel
theorem wl {w : Str} (h : w ∈ WL) : WG w := wg_of (List.all_eq_true.mp wl_all w h)
theorem strOk_one {w : Str} (h : PyData.strOk w = true) {c : Nat} (hc : c ∈ w.cps.toList) : PyData.strOk ⟨#[c]⟩ = true := by
  have h : w.cps.all (· < 0x110000) = true := h
  rw [← Array.all_toList, List.all_eq_true] at h
  have := h c hc
  show (#[c] : Array Nat).all (· < 0x110000) = true
  rw [← Array.all_toList]
  simpa using this
theorem oddL_ok {w : Str} (h : PyData.strOk w = true) : ∀ z ∈ oddL w.cps.toList, PyData.strOk z = true := fun z hz => by
  unfold oddL at hz
  obtain ⟨c, hc, rfl⟩ := List.mem_map.mp hz
  exact strOk_one h (List.mem_filter.mp hc).1
/-- the numbers of the k-th line of a net's text, by its words -/
def rowW (k : Nat) (l : List Str) : Option (List Nat) := rowOf (if k = 0 then "net" else "order") (if k = 0 then 2 else 5) l ((l.drop 1).map valW)
def rowN (l : List Str) : List Nat := (l.drop 1).filterMap valW
theorem rowW_some {k : Nat} {l : List Str} {r : List Nat} (h : rowW k l = some r) : ∃ w ws, l = w :: ws ∧ w = (if k = 0 then ("net" : Str) else "order") ∧ ws.length = (if k = 0 then 2 else 5) ∧ (∀ z ∈ ws, (valW z).isSome = true) ∧ r = rowN l := by
  cases l with
  | nil => cases h
  | cons w ws =>
    have h : (if w = (if k = 0 then ("net" : Str) else "order") ∧ (ws.map valW).length = (if k = 0 then 2 else 5) ∧ (ws.map valW).all Option.isSome = true then some ((ws.map valW).filterMap id) else none) = some r := h
    by_cases c : w = (if k = 0 then ("net" : Str) else "order") ∧ (ws.map valW).length = (if k = 0 then 2 else 5) ∧ (ws.map valW).all Option.isSome = true
    · rw [if_pos c] at h
      obtain ⟨c1, c2, c3⟩ := c
      rw [List.length_map] at c2
      refine ⟨w, ws, rfl, c1, c2, fun z hz => ?_, ?_⟩
      · exact List.all_eq_true.mp c3 _ (List.mem_map_of_mem hz)
      · rw [← Option.some.inj h]
        show ((ws.map valW).filterMap id) = (ws.filterMap valW)
        rw [List.filterMap_map]
        rfl
    · rw [if_neg c] at h
      cases h
/-- lines of words that a law may write -/
structure LsG (Ls : List (List Str)) : Prop where
  ne : Ls ≠ []
  len : Ls.length ≤ 60
  ln : ∀ l ∈ Ls, l ≠ [] ∧ l.length ≤ 40 ∧ ∀ w ∈ l, WG w
def lineW (l : List Str) : Str := Txt.join " " l
def textW (Ls : List (List Str)) : Str := Txt.join "\n" (Ls.map lineW)
theorem LsG.line {Ls : List (List Str)} (g : LsG Ls) {l : List Str} (h : l ∈ Ls) : Txt.split (lineW l) " " = l := split_words (g.ln l h).1 fun w hw => ((g.ln l h).2.2 w hw).pl
theorem LsG.lines {Ls : List (List Str)} (g : LsG Ls) : Txt.split (textW Ls) "\n" = Ls.map lineW := by
  refine split_lines (fun z => g.ne (List.map_eq_nil_iff.mp z)) fun l hl => ?_
  obtain ⟨l', hl', rfl⟩ := List.mem_map.mp hl
  exact line_free fun w hw => ((g.ln l' hl').2.2 w hw).pl
theorem sum_le_mul {c : Nat} : ∀ {l : List Nat}, (∀ x ∈ l, x ≤ c) → l.sum ≤ l.length * c
  | [], _ => Nat.zero_le _
  | x :: r, h => by
    have h1 := h x (List.mem_cons_self ..)
    have h2 := sum_le_mul fun y hy => h y (List.mem_cons_of_mem _ hy)
    rw [List.sum_cons, List.length_cons, Nat.succ_mul]
    omega
theorem LsG.lsum {Ls : List (List Str)} (g : LsG Ls) {l : List Str} (h : l ∈ Ls) : (l.map (·.length)).sum + l.length * (" " : Str).length ≤ 440 := by
  obtain ⟨_, h2, h3⟩ := g.ln l h
  have h4 : (l.map (·.length)).sum ≤ (l.map (·.length)).length * 10 := sum_le_mul fun x hx => by
    obtain ⟨w, hw, rfl⟩ := List.mem_map.mp hx
    exact (h3 w hw).len
  rw [List.length_map] at h4
  rw [len_sp]
  omega
theorem LsG.llen {Ls : List (List Str)} (g : LsG Ls) {l : List Str} (h : l ∈ Ls) : (lineW l).length ≤ 440 := Nat.le_trans (len_join l) (g.lsum h)
theorem len_nl : ("\n" : Str).length = 1 := by decide +kernel
theorem LsG.tsum {Ls : List (List Str)} (g : LsG Ls) : ((Ls.map lineW).map (·.length)).sum + (Ls.map lineW).length * ("\n" : Str).length ≤ 30000 := by
  have h4 : ((Ls.map lineW).map (·.length)).sum ≤ ((Ls.map lineW).map (·.length)).length * 440 := sum_le_mul fun x hx => by
    obtain ⟨w, hw, rfl⟩ := List.mem_map.mp hx
    obtain ⟨l, hl, rfl⟩ := List.mem_map.mp hw
    exact g.llen hl
  rw [List.length_map, List.length_map] at h4
  have := g.len
  rw [len_nl, List.length_map]
  omega
theorem LsG.tlen {Ls : List (List Str)} (g : LsG Ls) : (textW Ls).length ≤ 30000 := Nat.le_trans (len_join _) g.tsum
theorem wgs {ws : List Str} (h : ∀ w ∈ ws, WG w) : Paired Wk ws (ws.map valW) := by
  induction ws with
  | nil => exact .nil
  | cons w r ih => exact .cons (h w (List.mem_cons_self ..)).wk (ih fun z hz => h z (List.mem_cons_of_mem _ hz))
theorem LsG.lok {Ls : List (List Str)} (g : LsG Ls) {k : Nat} {l : List Str} (h : l ∈ Ls) {r : List Nat} (e : rowW k l = some r) : LineOk k (lineW l) r := by
  obtain ⟨h1, h2, h3⟩ := g.ln l h
  cases l with
  | nil => exact absurd rfl h1
  | cons w ws =>
    rw [List.length_cons] at h2
    exact ⟨w, ws, ws.map valW, Nat.le_trans (g.llen h) (by decide), g.line h, by omega, wgs fun z hz => h3 z (List.mem_cons_of_mem _ hz), e⟩
theorem LsG.lbad {Ls : List (List Str)} (g : LsG Ls) {k : Nat} {l : List Str} (h : l ∈ Ls) (e : rowW k l = none) : LineBad k (lineW l) := by
  obtain ⟨h1, h2, h3⟩ := g.ln l h
  cases l with
  | nil => exact absurd rfl h1
  | cons w ws =>
    rw [List.length_cons] at h2
    exact ⟨w, ws, ws.map valW, Nat.le_trans (g.llen h) (by decide), g.line h, by omega, wgs fun z hz => h3 z (List.mem_cons_of_mem _ hz), e⟩
/-- the first line that is wrong, or none -/
def FltAt (Ls : List (List Str)) : Option Nat → Prop
  | none => ∀ i l, Ls[i]? = some l → ∃ r, rowW i l = some r
  | some k => (∃ l, Ls[k]? = some l ∧ rowW k l = none) ∧ ∀ i l, i < k → Ls[i]? = some l → ∃ r, rowW i l = some r
theorem lawNum_all {ws : List Str} (h : ∀ z ∈ ws, WG z) : (ws.filter fun z => !lawNum z).isEmpty = (ws.map valW).all Option.isSome := by
  induction ws with
  | nil => rfl
  | cons z r ih =>
    have gz := h z (List.mem_cons_self ..)
    have e1 : lawNum z = (valW z).isSome := gz.law.trans gz.wk.num
    have ih := ih fun y hy => h y (List.mem_cons_of_mem _ hy)
    rw [List.filter_cons, List.map_cons, List.all_cons, ← ih, e1]
    cases (valW z).isSome <;> simp
/-! ### lists of words in the heap -/
def LnAt (H : Hp) (v : V) (l : List Str) : Prop := ∃ u, v = .ref u ∧ H u = some (.lst (l.map V.str))
def LsAt (H : Hp) (a : Addr) (Ls : List (List Str)) : Prop := ∃ us, H a = some (.lst us) ∧ Paired (LnAt H) us Ls
theorem LnAt.same {H H' : Hp} (s : Same H H') {v : V} {l : List Str} (h : LnAt H v l) : LnAt H' v l := by
  obtain ⟨u, e, hu⟩ := h
  exact ⟨u, e, s _ _ hu⟩
theorem LsAt.same {H H' : Hp} (s : Same H H') {a : Addr} {Ls : List (List Str)} (h : LsAt H a Ls) : LsAt H' a Ls := by
  obtain ⟨us, e, hu⟩ := h
  exact ⟨us, s _ _ e, Paired.mapP hu fun _ _ z => z.same s⟩
abbrev s_l_is_number : Stmt := top 49
abbrev N_l_is_number : List Str := ["_law_word", "_law_sign"]
abbrev P_l_is_number : List Str := ["_law_word"]
theorem sc_l_is_number : FnScope N_l_is_number P_l_is_number (defScope s_l_is_number) := ⟨rfl, rfl, rfl, by decide +kernel, rfl, by decide +kernel, by decide +kernel⟩
/-! ### the law's own reading of a word -/
def spLawNum : Sp := fun vs H Q _ => ∃ (x : Str), vs = [.str x] ∧ PyData.strOk x = true ∧ x.length ≤ 100 ∧ ∀ H', Same H H' → Q (.bl (lawNum x)) H'
section
variable {P : Program} {w : World} {K : PySem.W.Frag} {mg : Str → Option Value} {base : Heap}
theorem ok_lawnum {f : Addr} {fd : FuncData} (F : Fun K "_law_is_number" "_law_is_number" s_l_is_number f fd) (B : Blt mg) : FnOk P w K mg base CX0 2 f fd P_l_is_number spLawNum := by
  refine F.ok sc_l_is_number (fun vs H Q E h => ?_) (fun cdv A outer s H vs Q E hr h => ?_)
  · obtain ⟨x, rfl, _⟩ := h
    rfl
  · obtain ⟨x, rfl, ox, hl, q⟩ := h
    have hu : (A.deeper (PyProof.Rows.envOfC "_law_is_number" (defScope s_l_is_number) s.heap.objs.size f cdv)).units + 64 < cLine := hr.units
    refine ⟨_, pss_cons (ps_if (PW.pt (pw_or (pt_not (pt_chain op_le op_le pe_int (pe_callB call_len_str (by rfl) B.len PySem.boot_len (pa_cons (pv 0) pa_nil)) pe_int))
        (pw_or1 (pt_cmpR (op_neD hu) (pe_lc (own := [("_law_sign", 1)]) (g := gName 1) (tt := tTest (tOp (fun x y H Q => ∃ i j, x = .str i ∧ y = .str j ∧ Q (.bl (!(!(Builtin.Str.occurrences j i 0 j.length 1).isEmpty))) H) (tVar 1) (tC (.str "0123456789")))) (te := tVar 1) (by rfl) sc_l_is_number.nd (pi_str (pv 0))
          (blkOk_by (N := N_l_is_number) (sc := defScope s_l_is_number) (by decide +kernel)) (fun _ _ _ _ _ => pg_name (i := 1) sc_l_is_number.nd rfl (.inl rfl)) (fun _ _ _ _ _ => pts_one (pt_cmpR op_notIn_str (pv 1) pe_str rfl)) (fun _ _ _ _ _ => pv 1)) (pe_lst pa_nil) (nomark _))))) (pss_one (ps_ret pe_bl)) pss_nil)
      (pss_one (ps_ret (pe_or (pe_cmpR op_eq (pv 0) pe_str (nomark _)) (pe_one (pe_cmpR op_ne (pe_ix ix_str (pv 0) pe_int (fun _ _ => rfl)) pe_str (nomark _)))))), ?_⟩
    have hz : x.length ≤ sizeLine := by rw [sizeLine_eq]; omega
    have eL : lawNum x = ((decide ((1 : Int) ≤ x.length) && decide ((x.length : Int) ≤ 3)) && ((oddL x.cps.toList).isEmpty && (decide (x = "0") || !decide (x.cps.toList.head? = some 48)))) := rfl
    have no : (decide ((1 : Int) ≤ x.length) && decide ((x.length : Int) ≤ 3)) = false → ∀ H', Same H H' → Q (.bl false) H' := fun e H' s' => by
      have q' := q H' s'
      rw [eL, e, Bool.false_and] at q'
      exact q'
    refine ⟨_, rfl, x, rfl, hz, _, _, rfl, rfl, _, rfl, ?_⟩
    refine ite2 (fun e1 => ?_) (fun e1 => ?_)
    · refine ⟨_, _, rfl, rfl, _, rfl, ?_⟩
      refine ite2 (fun e2 => ?_) (fun e2 => ?_)
      · exact iteT (no (by
          have : decide ((x.length : Int) ≤ 3) = false := by simpa using e2
          rw [this, Bool.and_false]) H (.refl H))
      · have e3 : decide ((x.length : Int) ≤ 3) = true := by simpa using e2
        rw [e1, e3, Bool.true_and, Bool.true_and] at eL
        refine ⟨_, rfl, x, rfl, fun D nD => ?_⟩
        refine lc_str (x := x) (fun i H' => H' = upd H D (.lst ((oddL (x.cps.toList.take i)).map V.str))) rfl ?_ ?_
        · rintro i c H' hc rfl
          have hc' : x.cps.toList[i]? = some c := by rw [Array.getElem?_toList]; exact hc
          have il : i < x.cps.toList.length := (List.getElem?_eq_some_iff.mp hc').1
          have xl : x.cps.toList.length ≤ 100 := hl
          refine ⟨rfl, _, rfl, _, _, rfl, rfl, oddC c, rfl, ?_⟩
          have et : oddL (x.cps.toList.take (i + 1)) = oddL (x.cps.toList.take i) ++ (if oddC c = true then [⟨#[c]⟩] else []) := by
            unfold oddL
            rw [take_filter hc', List.map_append]
            by_cases z : oddC c = true <;> simp [z]
          rw [et]
          dsimp only
          by_cases z : oddC c = true
          · rw [if_pos z, if_pos z]
            refine ⟨_, rfl, _, upd_same, ?_, ?_⟩
            · rw [List.length_map]
              unfold oddL
              rw [List.length_map]
              exact small1000 (Nat.le_trans (List.length_filter_le _ _) (by rw [List.length_take]; omega))
            · rw [upd_upd, List.map_append]
              rfl
          · rw [if_neg z, if_neg z, List.append_nil]
        rintro H' rfl
        rw [List.take_of_length_le (by show x.cps.toList.length ≤ x.cps.size; simp)]
        have s1 := same_upd (o := HO.lst ((oddL x.cps.toList).map V.str)) nD
        refine ⟨(by show 0 ≤ sizeLine; decide), fun z nz => ?_⟩
        have s2 := same_upd (o := HO.lst []) nz
        have s12 := s1.trans s2
        refine ⟨_, _, strs_dp (s2 _ _ upd_same), strs_dp (ws := []) upd_same, strsD_shaped (oddL_ok ox), strsD_shaped (fun _ h => by cases h), _, rfl, ?_⟩
        rw [show PyData.eqv (strsD (oddL x.cps.toList)) (strsD []) = (oddL x.cps.toList).isEmpty from by
          show PyData.eqv (.list _) (.list []) = _
          rw [listD_nil]
          cases oddL x.cps.toList <;> simp]
        refine ite2 (fun e4 => ?_) (fun e4 => ?_)
        · have : (oddL x.cps.toList).isEmpty = false := by simpa using e4
          rw [this, Bool.false_and] at eL
          have q' := q _ s12
          rw [eL] at q'
          exact q'
        · have : (oddL x.cps.toList).isEmpty = true := by simpa using e4
          rw [this, Bool.true_and] at eL
          have q' := q _ s12
          rw [eL] at q'
          generalize (upd (upd H D (.lst ((oddL x.cps.toList).map V.str))) z (.lst [])) = H2 at q'
          have es : decide (V.str x = V.str "0") = decide (x = "0") := by
            by_cases h : x = "0"
            · rw [decide_eq_true h, decide_eq_true (by rw [h])]
            · rw [decide_eq_false h, decide_eq_false fun e => h (V.str.inj e)]
          obtain ⟨c, r, hc⟩ : ∃ c r, x.cps.toList = c :: r := by
            cases h : x.cps.toList with
            | nil =>
              have z1 := of_decide_eq_true e1
              have z2 : x.length = x.cps.toList.length := by show x.cps.size = _; simp
              rw [h] at z2
              rw [z2] at z1
              exact absurd z1 (by decide)
            | cons c r => exact ⟨c, r, rfl⟩
          refine ⟨_, rfl, rfl, _, rfl, ?_⟩
          rw [es]
          refine ite2 (fun e5 => ?_) (fun e5 => ?_)
          · rw [e5, Bool.true_or] at q'
            exact q'
          · rw [Bool.eq_false_iff.mpr e5, Bool.false_or, hc] at q'
            refine ⟨_, rfl, x, 0, c, rfl, rfl, hz, by rw [hc]; exact atI_nat (j := 0) rfl, rfl, ?_⟩
            rw [one_str]
            have e7 : decide ((c :: r).head? = some 48) = decide (c = 48) := by
              by_cases h : c = 48 <;> simp [h]
            rw [e7] at q'
            exact q'
    · exact ⟨_, rfl, iteT (no (by rw [Bool.eq_false_iff.mpr e1, Bool.false_and]) H (.refl H))⟩
end
/-! ### lists of words under a law's hands -/
def LnD (d : Addr) (H : Hp) (v : V) (l : List Str) : Prop := ∃ u, v = .ref u ∧ u ≠ d ∧ H u = some (.lst (l.map V.str))
def LsD (d : Addr) (H : Hp) (a : Addr) (Ls : List (List Str)) : Prop := a ≠ d ∧ ∃ us, H a = some (.lst us) ∧ Paired (LnD d H) us Ls
theorem Paired.dropK {α β : Type} {F : α → β → Prop} : ∀ {xs : List α} {l : List β} (n : Nat), Paired F xs l → Paired F (xs.drop n) (l.drop n)
  | _, _, 0, h => h
  | _, _, _ + 1, .nil => .nil
  | _, _, n + 1, .cons _ t => Paired.dropK n t
section
variable {d a : Addr} {H H' : Hp} {v : V} {l : List Str} {Ls Ms : List (List Str)}
theorem LnD.same (h : LnD d H v l) (s : Same H H') : LnD d H' v l := by
  obtain ⟨u, e, n, hu⟩ := h
  exact ⟨u, e, n, s _ _ hu⟩
theorem LnD.but (h : LnD d H v l) (b : But d H H') : LnD d H' v l := by
  obtain ⟨u, e, n, hu⟩ := h
  exact ⟨u, e, n, b _ _ n hu⟩
theorem LsD.same (h : LsD d H a Ls) (s : Same H H') : LsD d H' a Ls := by
  obtain ⟨n, us, e, hu⟩ := h
  exact ⟨n, us, s _ _ e, Paired.mapP hu fun _ _ z => z.same s⟩
theorem LsD.but (h : LsD d H a Ls) (b : But d H H') : LsD d H' a Ls := by
  obtain ⟨n, us, e, hu⟩ := h
  exact ⟨n, us, b _ _ n e, Paired.mapP hu fun _ _ z => z.but b⟩
theorem LsD.at (h : LsD d H a Ls) : LsAt H a Ls := by
  obtain ⟨_, us, e, hu⟩ := h
  exact ⟨us, e, Paired.mapP hu fun _ _ ⟨u, e, _, hu⟩ => ⟨u, e, hu⟩⟩
theorem LnD.ext (h : LnD d H v l) (e : LamX.ExtN H H') : LnD d H' v l := by
  obtain ⟨u, e1, n, hu⟩ := h
  exact ⟨u, e1, n, ExtN.lst e hu⟩
theorem LsD.ext (h : LsD d H a Ls) (e : LamX.ExtN H H') : LsD d H' a Ls := by
  obtain ⟨n, us, e1, hu⟩ := h
  exact ⟨n, us, ExtN.lst e e1, Paired.mapP hu fun _ _ z => z.ext e⟩
theorem DAt.free {b : Addr} (D : DAt H d) (n : H b = none) : b ≠ d := (ne_of_none D.som.choose_spec n).symm
/-- lines[:k], lines[k:] .. of such a list, and their sum -/
theorem lsD_cut {K : PySem.W.Frag} {lo hi : Option Int} {Q : VK} {us : List V} (f : {α : Type} → List α → List α) (D : DAt H d) (ha : H a = some (.lst us)) (hP : Paired (LnD d H) us Ls) (ef : cutV us lo hi = f us) (pf : Paired (LnD d H) (f us) (f Ls))
    (h : ∀ b H', Same H H' → DAt H' d → b ≠ d → H' b = some (.lst (f us)) → Paired (LnD d H') (f us) (f Ls) → Q (.ref b) H') : rSlL K (.ref a) lo hi H Q :=
  slL_case ha fun b H' s nb hb => h b H' s (D.but s) (D.free nb) (by rw [hb, ef]) (Paired.mapP pf fun _ _ z => z.same s)
end
/-- the bounds that the lines keep while a law changes them -/
structure LsB (WS : List Str) (n m : Nat) (Ls : List (List Str)) : Prop where
  ne : Ls ≠ []
  len : Ls.length ≤ n
  ln : ∀ l ∈ Ls, l ≠ [] ∧ l.length ≤ m ∧ ∀ w ∈ l, w ∈ WS
section
variable {WS : List Str} {n m : Nat} {Ls : List (List Str)}
theorem LsB.mono {n' m' : Nat} (h : LsB WS n m Ls) (h1 : n ≤ n') (h2 : m ≤ m') : LsB WS n' m' Ls := ⟨h.ne, Nat.le_trans h.len h1, fun l hl => ⟨(h.ln l hl).1, Nat.le_trans (h.ln l hl).2.1 h2, (h.ln l hl).2.2⟩⟩
theorem LsB.good (h : LsB WS n m Ls) (h1 : n ≤ 60) (h2 : m ≤ 40) (g : ∀ w ∈ WS, WG w) : LsG Ls := ⟨h.ne, Nat.le_trans h.len h1, fun l hl => ⟨(h.ln l hl).1, Nat.le_trans (h.ln l hl).2.1 h2, fun w hw => g w ((h.ln l hl).2.2 w hw)⟩⟩
theorem LsB.drop1 {k : Nat} (h : LsB WS n m Ls) (h1 : 1 < Ls.length) (hk : k < Ls.length) : LsB WS n m (Ls.take k ++ Ls.drop (k + 1)) := by
  have e : (Ls.take k ++ Ls.drop (k + 1)).length = Ls.length - 1 := by
    rw [List.length_append, List.length_take, List.length_drop]
    omega
  refine ⟨fun z => ?_, ?_, fun l hl => ?_⟩
  · rw [z] at e
    have : 0 = Ls.length - 1 := e
    omega
  · have := h.len
    omega
  · rcases List.mem_append.mp hl with z | z
    · exact h.ln l (List.mem_of_mem_take z)
    · exact h.ln l (List.mem_of_mem_drop z)
theorem LsB.put {k j : Nat} {l : List Str} (h : LsB WS n m Ls) (hk : k < Ls.length) (hj : j = k ∨ j = k + 1) (ne : l ≠ []) (hm : l.length ≤ m) (hw : ∀ w ∈ l, w ∈ WS) : LsB WS (n + 1) m (Ls.take k ++ [l] ++ Ls.drop j) := by
  refine ⟨by simp, ?_, fun l' hl => ?_⟩
  · have := h.len
    rw [List.length_append, List.length_append, List.length_take, List.length_drop, List.length_singleton]
    rcases hj with rfl | rfl <;> omega
  · rcases List.mem_append.mp hl with z | z
    · rcases List.mem_append.mp z with z | z
      · exact h.ln l' (List.mem_of_mem_take z)
      · obtain rfl := List.mem_singleton.mp z
        exact ⟨ne, hm, hw⟩
    · exact h.ln l' (List.mem_of_mem_drop z)
theorem LsB.put1 {k : Nat} {l : List Str} (h : LsB WS n m Ls) (hk : k < Ls.length) (ne : l ≠ []) (hm : l.length ≤ m) (hw : ∀ w ∈ l, w ∈ WS) : LsB WS n m (Ls.take k ++ [l] ++ Ls.drop (k + 1)) := by
  refine ⟨by simp, ?_, (h.put hk (.inr rfl) ne hm hw).ln⟩
  have := h.len
  rw [List.length_append, List.length_append, List.length_take, List.length_drop, List.length_singleton]
  omega
end
/-- a line where words are taken out and put in -/
def chgL (l : List Str) (at_ c r : Nat) (w : Str) : List Str := l.take at_ ++ List.replicate r w ++ l.drop (at_ + c)
theorem chgL_len {l : List Str} {at_ c r : Nat} {w : Str} : (chgL l at_ c r w).length ≤ l.length + r := by
  unfold chgL
  rw [List.length_append, List.length_append, List.length_take, List.length_drop, List.length_replicate]
  omega
theorem chgL_ne {l : List Str} {at_ c r : Nat} {w : Str} (h : l ≠ []) (hr : 1 ≤ r ∨ c = 0) : chgL l at_ c r w ≠ [] := by
  intro e
  unfold chgL at e
  rcases hr with z | rfl
  · have e2 := congrArg List.length e
    rw [List.length_append, List.length_append, List.length_replicate] at e2
    have : (l.take at_).length + r + (l.drop (at_ + c)).length = 0 := e2
    omega
  · rw [Nat.add_zero] at e
    have e2 := congrArg List.length e
    rw [List.length_append, List.length_append, List.length_take, List.length_drop] at e2
    have e3 : min at_ l.length + (List.replicate r w).length + (l.length - at_) = 0 := e2
    have : l.length = 0 := by omega
    exact h (List.length_eq_zero_iff.mp this)
theorem chgL_mem {WS : List Str} {l : List Str} {at_ c r : Nat} {w : Str} (h : ∀ z ∈ l, z ∈ WS) (hw : w ∈ WS) : ∀ z ∈ chgL l at_ c r w, z ∈ WS := fun z hz => by
  unfold chgL at hz
  rcases List.mem_append.mp hz with y | y
  · rcases List.mem_append.mp y with y | y
    · exact h z (List.mem_of_mem_take y)
    · rw [List.eq_of_mem_replicate y]
      exact hw
  · exact h z (List.mem_of_mem_drop y)
/-! ### execute raises, whatever the operation's numbers are -/
/-- the number of the error that an office raises of an operation -/
def BadN (S : OffS) : Opn → Nat → Prop
  | .add od, i => (orderB S.p S.h od.vs = false ∧ i = 4) ∨ (OdOk S.p S.h od ∧ S.cur.length = 20 ∧ i = 5)
  | .cancel k, i => ¬ k < S.cur.length ∧ i = 2
  | .prolong k n, i => (¬ k < S.cur.length ∧ i = 2) ∨ ∃ od, S.cur[k]? = some od ∧ orderB S.p S.h (proO od n).vs = false ∧ i = 4
  | .rais k, i => ¬ k < S.cur.length ∧ i = 2
  | .undo, _ => False
  | .redo, _ => False
theorem badN_i {S : OffS} {op : Opn} {i : Nat} (h : BadN S op i) : i = 2 ∨ i = 4 ∨ i = 5 := by
  cases op with
  | add od => exact h.elim (fun z => .inr (.inl z.2)) fun z => .inr (.inr z.2.2)
  | cancel k => exact .inl h.2
  | prolong k n =>
    rcases h with z | ⟨_, _, _, z⟩
    · exact .inl z.2
    · exact .inr (.inl z)
  | rais k => exact .inl h.2
  | undo => exact h.elim
  | redo => exact h.elim
def spDoG (O C : Addr) (cE : Nat → Addr) : Sp := fun vs H _ E => ∃ (o a : Addr) (op : Opn) (S : OffS) (i : Nat), vs = [.ref o, .ref a] ∧ OffAt O C H o S ∧ OpnAt H a op ∧ BadN S op i ∧ ∀ H', Same H H' → E (.ref (cE i)) none H'
section
variable {P : Program} {w : World} {K : PySem.W.Frag} {mg : Str → Option Value} {base : Heap}
theorem ok_execG {f O C f1 f2 f3 f4 : Addr} {cE : Nat → Addr} {fd d1 d2 d3 d4 : FuncData} (F : Fun K "execute" "Office.execute" s_Office_execute f fd) (T : OffT K O)
    (m1 : Meth K O "add" f1) (G1 : FnOk P w K mg base (L2N.CX P w) 4 f1 d1 P_Office_add (spAddX O C (cE 4) (cE 5))) (b1 : Binds K d1 P_Office_add []) (m2 : Meth K O "cancel" f2) (G2 : FnOk P w K mg base (L2N.CX P w) 4 f2 d2 P_Office_cancel (spIxX O C (cE 2))) (b2 : Binds K d2 P_Office_cancel [])
    (m3 : Meth K O "prolong" f3) (G3 : FnOk P w K mg base (L2N.CX P w) 4 f3 d3 P_Office_prolong (spProlongX O C (cE 2) (cE 4))) (b3 : Binds K d3 P_Office_prolong []) (m4 : Meth K O "raise_order" f4) (G4 : FnOk P w K mg base (L2N.CX P w) 4 f4 d4 P_Office_raise_order (spIxX O C (cE 2))) (b4 : Binds K d4 P_Office_raise_order []) : FnOk P w K mg base (L2N.CX P w) 5 f fd P_Office_execute (spDoG O C cE) := by
  refine okN F sc_Office_execute (fun vs H Q E h => ?_) (fun cdv A outer s H vs Q E hr h => ?_)
  · obtain ⟨o, a, op, S, i, rfl, _⟩ := h
    rfl
  · obtain ⟨o, a, op, S, i, rfl, W0, ha, he, q⟩ := h
    refine ⟨_, (pss_cons (ps_set (i := 2) sc_Office_execute.nd rfl (.inl rfl) (pe_ix ix_tup (pv 1) pe_int (fun _ _ => rfl)))
      (pss_cons (ps_if (pt_cmpR op_eq (pv 2) pe_str (nomark _)) (pss_one (ps_ret (pe_meth (E := E) (pv 0) T.cl m1 G1 hr b1 .nil (L2N.passes_call (L2N.takes_of rfl rfl rfl rfl) fun _ _ _ _ z => z) (pa_cons (pe_ix ix_tup (pv 1) pe_int (fun _ _ => rfl)) pa_nil)))) pss_nil)
      (pss_cons (ps_if (pt_cmpR op_eq (pv 2) pe_str (nomark _)) (pss_one (ps_ret (pe_meth (E := E) (pv 0) T.cl m2 G2 hr b2 .nil (L2N.passes_call (L2N.takes_of rfl rfl rfl rfl) fun _ _ _ _ z => z) (pa_cons (pe_ix ix_tup (pv 1) pe_int (fun _ _ => rfl)) pa_nil)))) pss_nil)
      (pss_cons (ps_if (pt_cmpR op_eq (pv 2) pe_str (nomark _)) (pss_one (ps_ret (pe_meth (E := E) (pv 0) T.cl m3 G3 hr b3 .nil (L2N.passes_call (L2N.takes_of rfl rfl rfl rfl) fun _ _ _ _ z => z) (pa_cons (pe_ix ix_tup (pv 1) pe_int (fun _ _ => rfl)) (pa_cons (pe_ix ix_tup (pv 1) pe_int (fun _ _ => rfl)) pa_nil))))) pss_nil)
      (pss_cons (ps_if (pt_cmpR op_eq (pv 2) pe_str (nomark _)) (pss_one (ps_ret (pe_meth (E := E) (pv 0) T.cl m4 G4 hr b4 .nil (L2N.passes_call (L2N.takes_of rfl rfl rfl rfl) fun _ _ _ _ z => z) (pa_cons (pe_ix ix_tup (pv 1) pe_int (fun _ _ => rfl)) pa_nil)))) pss_nil)
      (pss_cons ps_never (pss_one ps_never))))))), ?_⟩
    obtain ⟨dx, fs, u, vs, ho, R, _⟩ := id W0
    have n1 : fs.lookup ("add" : Str) = none := R.no _ (by decide +kernel) (by decide +kernel) (by decide +kernel) (by decide +kernel)
    have n2 : fs.lookup ("cancel" : Str) = none := R.no _ (by decide +kernel) (by decide +kernel) (by decide +kernel) (by decide +kernel)
    have n3 : fs.lookup ("prolong" : Str) = none := R.no _ (by decide +kernel) (by decide +kernel) (by decide +kernel) (by decide +kernel)
    have n4 : fs.lookup ("raise_order" : Str) = none := R.no _ (by decide +kernel) (by decide +kernel) (by decide +kernel) (by decide +kernel)
    cases op with
    | add od =>
      obtain ⟨v, hv, hvo⟩ := ha
      refine ⟨_, rfl, a, _, 0, _, rfl, rfl, SqT.of hv, atI_nat (j := 0) rfl, _, rfl, rfl, _, rfl, str_eqT ⟨_, rfl, o, dx, fs, rfl, ho, n1, _, rfl, a, _, 1, _, rfl, rfl, SqT.of hv, atI_nat (j := 1) rfl, o, v, od, S, rfl, W0, hvo, ?_, fun hb => ?_, fun hb h20 => ?_⟩⟩
      · rcases he with z | z
        · exact .inl z.1
        · exact .inr ⟨z.1, z.2.1⟩
      · rcases he with ⟨_, rfl⟩ | ⟨z, _⟩
        · exact q H (.refl H)
        · rw [orderB_ok z] at hb
          cases hb
      · rcases he with ⟨z, _⟩ | ⟨_, _, rfl⟩
        · rw [orderB_ok hb] at z
          cases z
        · exact q H (.refl H)
    | cancel k =>
      have hv : H a = some (.tup [.str "cancel", .int (k : Nat)]) := ha
      obtain ⟨c, rfl⟩ := he
      exact ⟨_, rfl, a, _, 0, _, rfl, rfl, SqT.of hv, atI_nat (j := 0) rfl, _, rfl, rfl, _, rfl, str_eqF (by decide +kernel) ⟨_, rfl, rfl, _, rfl, str_eqT ⟨_, rfl, o, dx, fs, rfl, ho, n2, _, rfl, a, _, 1, _, rfl, rfl, SqT.of hv, atI_nat (j := 1) rfl, o, _, S, rfl, W0, by omega, q H (.refl H)⟩⟩⟩
    | prolong k n =>
      have hv : H a = some (.tup [.str "prolong", .int (k : Nat), .int (n : Nat)]) := ha
      refine ⟨_, rfl, a, _, 0, _, rfl, rfl, SqT.of hv, atI_nat (j := 0) rfl, _, rfl, rfl, _, rfl, str_eqF (by decide +kernel) ⟨_, rfl, rfl, _, rfl, str_eqF (by decide +kernel) ⟨_, rfl, rfl, _, rfl, str_eqT ⟨_, rfl, o, dx, fs, rfl, ho, n3, _, rfl, a, _, 1, _, rfl, rfl, SqT.of hv, atI_nat (j := 1) rfl, _, rfl, a, _, 2, _, rfl, rfl, SqT.of hv, atI_nat (j := 2) rfl, o, (k : Nat), n, S, rfl, W0, ?_⟩⟩⟩⟩
      rcases he with ⟨c, rfl⟩ | ⟨od, e1, e2, rfl⟩
      · exact .inl ⟨by omega, q H (.refl H)⟩
      · exact .inr ⟨k, od, rfl, e1, e2, q⟩
    | rais k =>
      have hv : H a = some (.tup [.str "raise", .int (k : Nat)]) := ha
      obtain ⟨c, rfl⟩ := he
      exact ⟨_, rfl, a, _, 0, _, rfl, rfl, SqT.of hv, atI_nat (j := 0) rfl, _, rfl, rfl, _, rfl, str_eqF (by decide +kernel) ⟨_, rfl, rfl, _, rfl, str_eqF (by decide +kernel) ⟨_, rfl, rfl, _, rfl, str_eqF (by decide +kernel) ⟨_, rfl, rfl, _, rfl, str_eqT ⟨_, rfl, o, dx, fs, rfl, ho, n4, _, rfl, a, _, 1, _, rfl, rfl, SqT.of hv, atI_nat (j := 1) rfl, o, _, S, rfl, W0, by omega, q H (.refl H)⟩⟩⟩⟩⟩
    | undo => exact he.elim
    | redo => exact he.elim
end
/-! ### a method call, what it lets out told at the slots -/
section
open PySem.Spec PyProof.Rows
/-- o.m(e, ..), what it lets out told at the slots -/
theorem pe_methS {X : Cx} {CX : CXT} {k : Nat} {f C : Addr} {fd : FuncData} {ps : List Str} {sp : Sp} {E : L2.St → XK} {m : Str} {pos apos : Pos} {e o : Expr} {es : List Expr} {ta : TE} {t : TA} {pl : Sem Bool} (he : PE X o ta) (c : Cls X.K C) (hm : Meth X.K C m f) (F : FnOk X.prog X.w X.K X.mg X.base CX k f fd ps sp) (hr : Room k X.A) (hb : Binds X.K fd ps []) (hx : ∀ σ, PassesAt CX X σ (E σ)) (ha : PA X (e :: es) t)
    (hst : starEach (e :: es) X.env = (false, eval e X.env) :: starEach es X.env := by rfl) (hpl : (backTo pos (starEach es X.env)).any (·.1) = false := by rfl)
    (ht : eval (.Call (.Attribute o m apos) (e :: es) [] pos) X.env = (do
      let ov ← eval o X.env
      standAt apos.atName
      let (f, first) ← holding [ov] (getMethod ov m pl)
      callWith pos f first (backTo pos (starEach (e :: es) X.env)) (backToKw pos (keywordEach [] X.env))) := by rfl) :
    PE X (.Call (.Attribute o m apos) (e :: es) [] pos) (L2H.tMethH C m sp E ta t) := by
  refine ⟨fun pins s σ H Q I h => ?_⟩
  refine PySem.W.methodCall_KW (pl := pl) (thn (he.run pins s σ H _ I h) fun u s1 ⟨x, H1, I1, rx, a, dx, fs, ex, ea, l, q⟩ => ?_) ht
  subst ex
  obtain rfl : u = Value.ref a := rx
  refine getmeth_ok I1 ea c hm l ?_
  refine PySem.W.callWith_K (first := [.ref a]) (h₀ := X.base) I.ok.mod.kin hm.kp (thn (ha.run pos pins s1 σ H1 _ I1 q) fun us s2 ⟨vs, H2, I2, r, q2⟩ => ⟨I2.kIn, ?_⟩) hst hpl
  exact run_fnS (us := .ref a :: us) (vs := .ref a :: vs) F hr hb (hx σ) I2 (.cons rfl r) q2
end
/-! ### replay, when an operation fails, whatever its numbers are -/
/-- the operations run until the k-th, which fails -/
def StopsAt (p h : Nat) (os : List Od) (ops : List Opn) (k : Nat) : Prop := ∀ x t F sn, (∀ j op, j < k → ops[j]? = some op → OpnOk (nextAll ⟨x, t, p, h, os, F, [], 0, sn⟩ (ops.take j)) op) ∧ ∃ bad i, ops[k]? = some bad ∧ BadN (nextAll ⟨x, t, p, h, os, F, [], 0, sn⟩ (ops.take k)) bad i
def spReplayG (O C D : Addr) : Sp := fun vs H _ E => ∃ (x l t : Addr) (p h : Nat) (os : List Od) (F : List Addr) (ops : List Opn) (k : Nat), vs = [.ref O, .ref x, .ref l] ∧ NetAt C H x p h os t F ∧ OpsAt H l ops ∧ ops.length ≤ 100 ∧ NetOk p h os ∧ StopsAt p h os ops k ∧
  ∀ d H', Same H H' → H' d = some (.xd (oneFs "place" k)) → E (.ref D) (some d) H'
theorem OpnAt.seqG {H : Hp} {a : Addr} {op : Opn} (h : OpnAt H a op) : SeqOp H a := by
  cases op with
  | add od => obtain ⟨v, hv, _⟩ := h; exact ⟨_, _, hv, by show (("add" : Str), (1 : Int)) ∈ argsL; simp [argsL]⟩
  | cancel k => exact ⟨_, _, h, by show (("cancel" : Str), (1 : Int)) ∈ argsL; simp [argsL]⟩
  | prolong k n => exact ⟨_, _, h, by show (("prolong" : Str), (2 : Int)) ∈ argsL; simp [argsL]⟩
  | rais k => exact ⟨_, _, h, by show (("raise" : Str), (1 : Int)) ∈ argsL; simp [argsL]⟩
  | undo => exact ⟨_, _, h, by show (("undo" : Str), (0 : Int)) ∈ argsL; simp [argsL]⟩
  | redo => exact ⟨_, _, h, by show (("redo" : Str), (0 : Int)) ∈ argsL; simp [argsL]⟩
section
variable {P : Program} {w : World} {K : PySem.W.Frag} {mg : Str → Option Value} {base : Heap}
set_option maxHeartbeats 0 in
theorem ok_replayG {f O C D CP fI fX : Addr} {cE : Nat → Addr} {ps : List Str} {fd fdI fdX : FuncData} (F : Fun K "replay" "Office.replay" s_Office_replay f fd) (B : Blt mg) (T : OffT K O) (NEH : OneErrH P w K mg base "InvalidOperation" "place" ps D) (gP : mg "PostError" = some (.ref CP)) (e15 : ∀ j, j = 2 ∨ j = 4 ∨ j = 5 → Err15 K CP cE (cE j) j)
    (MI : Mk K O fI) (GI : FnOk P w K mg base CX0 1 fI fdI P_Office_init (spOInit2 O C)) (bI : Binds K fdI P_Office_init [])
    (DI : Df P w K mg base "is_operation" 1 P_is_operation spIsOpnG) (mX : Meth K O "execute" fX) (GX : FnOk P w K mg base CX0 5 fX fdX P_Office_execute (spExec O C)) (GXN : FnOk P w K mg base (L2N.CX P w) 5 fX fdX P_Office_execute (spDoG O C cE)) (bX : Binds K fdX P_Office_execute []) : FnOk P w K mg base (L2.CX P w) 6 f fd P_Office_replay (spReplayG O C D) := by
  obtain ⟨fP, dP, gP', kP, bP, GP⟩ := DI
  have GXB := FnOk.or (upN GX) GXN
  refine F.okX sc_Office_replay (fun vs H Q E h => ?_) (fun cdv A outer s H vs Q E hr h => ?_)
  · obtain ⟨x, l, t, p, h, os, F, ops, k, rfl, _⟩ := h
    rfl
  · obtain ⟨x, l, t, p, h, os, F, ops, k, rfl, N, hops, len, nok0, stp, q⟩ := h
    have hr2 : Room 2 _ := hr.mono (by decide)
    have hr1 : Room 1 _ := hr.mono (by decide)
    have hr3 : Room 3 _ := hr.mono (by decide)
    refine ⟨_, pss_cons (ps_if (pt_not (pt_val (pe_callB call_isi (by rfl) B.isi PyProof.Rows.boot_isinstance (pa_cons (pv 2) (pa_cons (pe_bltn (v := .ty "list") (by rfl) B.list (by decide +kernel) rfl) pa_nil))))) (pss_one ps_never) pss_nil)
      (pss_cons (ps_set (i := 3) sc_Office_replay.nd rfl (.inl rfl) (pe_makeL (i := 0) MI GI hr2 rfl (.inl rfl) bI .nil pass0 (pa_cons (pv 1) pa_nil)))
      (pss_cons (ps_for (passes_of rfl) rfl (pi_enum (by rfl) B.enum (pa_cons (pv 2) pa_nil)) (pg_tup (by rfl) (pgs_cons (pg_name (i := 4) sc_Office_replay.nd rfl (.inl rfl)) (pgs_cons (pg_name (i := 5) sc_Office_replay.nd rfl (.inl rfl)) pgs_nil)))
        (pss_cons (ps_if (pt_not (pt_val (pe_call GP hr1 (by rfl) gP' kP bP .nil pass0 (pa_cons (pv 5) pa_nil)))) (pss_one ps_never) pss_nil)
        (pss_one (L2H.ps_try_onlyX (tb := fun W => tDrop (L2H.tMethH O "execute" (fun vs H Q E => spExec O C vs H Q E ∨ spDoG O C cE vs H Q E) (WE W) (tVar 3) (tCons (tVar 5) tNil)))
          (ts := fun _ _ _ => fun _ σ H => (tCons (tVar 4) tNil) σ H fun vs H1 => ∃ (i : Nat), vs = [.int i] ∧ i < 1000 ∧ ∀ d H2, H1 d = none → H2 d = some (.xd (oneFs "place" i)) → (∀ b, b ≠ d → H2 b = H1 b) → E (.ref D) (some d) H2)
          rfl rfl ⟨rfl, by decide, .inl gP⟩ (L2H.passesAt_of rfl) (takes_of rfl rfl rfl rfl)
          (by exact fun W pn xe tkN tkP pas => pss_one (ps_expr (pe_methS (E := WE W) (pv 3) T.cl mX GXB hr bX (fun σ => L2N.passAt tkN σ) (pa_cons (pv 5) pa_nil))))
          (by exact fun a oe cls d pn hz hf tkS hot => pss_one (L2H.ps_raiseHN hot tkS (pmk5_oneerrH NEH (L2H.roomH_mark hr3 _) hot (by rfl) (pa_cons (pv 4) pa_nil))))))))
      (pss_one ps_never))), ?_⟩
    obtain ⟨xs, hl, hX⟩ := id hops
    obtain ⟨_, bad0, _, hk0, _⟩ := stp 0 0 [] 0
    have kl : k < ops.length := (List.getElem?_eq_some_iff.mp hk0).1
    refine ⟨_, rfl, _, _, _, _, true, rfl, .ty "list", .base (.lst hl), kit_ty (by decide +kernel), _, rfl, iteF ?_⟩
    refine ⟨rfl, _, rfl, fun o dx no ndx nex => ?_⟩
    have sA : Same H (L2.upd (L2.upd H dx (.own o)) o (.ins O dx [])) := same_updN (same_upd ndx) no
    refine ⟨o, dx, x, t, p, h, os, F, H, rfl, N, sA, no, upd_same, fun H1 sn s1 nsn hsn A1 => ⟨rfl, ?_⟩⟩
    have no' : H o = none := no
    obtain ⟨run, bad, i, hk, he⟩ := stp x t F sn
    have je := badN_i he
    refine ⟨_, rfl, l, xs, rfl, SqL.of (s1 _ _ hl), for_enumL (K := K) (a := l) (xs := xs) (fun n σ H' => (∃ x4 x5, σ = [some (.ref O), some (.ref x), some (.ref l), some (.ref o), x4, x5]) ∧ n ≤ k ∧ Same H H' ∧ OffAt O C H' o (nextAll ⟨x, t, p, h, os, F, [], 0, sn⟩ (ops.take n)))
      ⟨⟨_, _, rfl⟩, Nat.zero_le _, s1, A1⟩ (fun n σ H' ⟨_, _, s2, _⟩ => s2 _ _ hl) ?_ ?_⟩
    · rintro n v σ H2 tp hi ⟨⟨x4, x5, rfl⟩, nk, s2, A2⟩ ntp
      have lt : n < ops.length := by rw [← hX.length]; exact (List.getElem?_eq_some_iff.mp hi).1
      have eg := List.getElem?_eq_getElem lt
      obtain ⟨v', hv', a, rfl, ha⟩ := Paired.get? (i := n) hX eg
      obtain rfl : _ = v := Option.some.inj (hv'.symm.trans hi)
      generalize ops[n] = op at eg ha
      have hn3 := nextAll_len (ops.take n) ⟨x, t, p, h, os, F, [], 0, sn⟩
      rw [List.length_take] at hn3
      have hn3 : (nextAll ⟨x, t, p, h, os, F, [], 0, sn⟩ (ops.take n)).st.length ≤ 0 + min n ops.length := hn3
      have s3 := same_upd (o := HO.tup [.int (n : Nat), .ref a]) ntp
      have A3 := A2.same s3
      have s23 := s2.trans s3
      have ha3 := ha.keep (tk_of s23)
      obtain ⟨dx3, fs3, _, _, ho3, R3, _⟩ := id A3
      refine ⟨tp, _, rfl, SqT.of upd_same, rfl, _, _, rfl, _, _, rfl, rfl, _, rfl, a, rfl, ha3.seqG, _, rfl, iteF ?_⟩
      refine ⟨_, rfl, o, dx3, fs3, rfl, ho3, R3.no _ (by decide +kernel) (by decide +kernel) (by decide +kernel) (by decide +kernel), _, rfl, ?_⟩
      by_cases c : n < k
      · have r1 := run n op c eg
        refine .inl ⟨o, a, op, _, rfl, A3, by omega, ha3, r1, fun H4 v4 b4 A4 r4 => ?_⟩
        refine ⟨⟨_, _, rfl⟩, c, fun z ob e => b4 _ _ (ne_of_none e no') (s23 _ _ e), ?_⟩
        rw [List.take_add_one, eg, Option.toList_some, nextAll_snoc]
        exact A4
      · obtain rfl : n = k := by omega
        rw [hk] at eg
        cases eg
        refine .inr ⟨o, a, bad, _, i, rfl, A3, ha3, he, fun H4 s4 => ⟨true, (e15 i je).ex, fun _ z nz => ?_, fun z => by cases z⟩⟩
        exact ⟨_, rfl, n, rfl, by omega, fun d H5 nd hd oth => q d H5 ((s23.trans s4).trans (same_ext nd oth)) hd⟩
    · rintro σ H2 ⟨_, nk, _⟩
      rw [hX.length] at nk
      omega
end
/-! ### parts of numbers: a net takes them, or refuses one of them -/
def odR (r : List Nat) : Od := ⟨r.getD 0 0, r.getD 1 0, r.getD 2 0, r.getD 3 0, r.getD 4 0⟩
def PartsBad (K : PySem.W.Frag) (H : Hp) (p h : Nat) (v : V) (part : Str) (i : Nat) : Prop :=
  (part = "period" ∧ i = 0 ∧ Kn K H (.int p) ∧ withinB (.int p) 1 30 = false) ∨
   (∃ p' : Nat, V.int p = .int p' ∧ 1 ≤ p' ∧ p' ≤ 30 ∧ ((part = "houses" ∧ i = 0 ∧ Kn K H (.int h) ∧ withinB (.int h) 1 10 = false) ∨ ∃ h' : Nat, V.int h = .int h' ∧ 1 ≤ h' ∧ h' ≤ 10 ∧ part = "orders" ∧ BadOrds K H p' h' v i))
theorem odR_row {r : List Nat} (h : r.length = 5) : r = [(odR r).s, (odR r).t, (odR r).f, (odR r).n, (odR r).e] := by
  match r, h with
  | [_, _, _, _, _], _ => rfl
theorem within_out {v lo hi : Nat} (h : ¬ (lo ≤ v ∧ v ≤ hi)) : withinB (.int v) lo hi = false := by
  show (decide ((lo : Int) ≤ v) && decide ((v : Int) ≤ hi)) = false
  by_cases c : lo ≤ v
  · rw [decide_eq_false (p := (v : Int) ≤ hi) (by omega), Bool.and_false]
  · rw [decide_eq_false (p := (lo : Int) ≤ v) (by omega), Bool.false_and]
theorem odOk_iff {p h : Nat} {o : Od} (hp : 1 ≤ p) (hh : 1 ≤ h) : OdOk p h o ↔ orderB p h o.vs = true := by
  refine ⟨orderB_ok, fun e => ?_⟩
  have e : (withinB (.int o.s) 0 ((h : Int) - 1) && (withinB (.int o.t) 0 ((h : Int) - 1) && (!decide (V.int o.s = V.int o.t) && (withinB (.int o.f) 0 ((p : Int) - 1) && (withinB (.int o.n) 1 p && withinB (.int o.e) 1 9))))) = true := e
  simp only [Bool.and_eq_true] at e
  obtain ⟨e1, e2, e3, e4, e5, e6⟩ := e
  have w : ∀ {v : Nat} {lo hi : Int}, withinB (.int v) lo hi = true → lo ≤ v ∧ (v : Int) ≤ hi := fun {v lo hi} z => by
    have z : (decide (lo ≤ (v : Int)) && decide ((v : Int) ≤ hi)) = true := z
    rw [Bool.and_eq_true] at z
    exact ⟨of_decide_eq_true z.1, of_decide_eq_true z.2⟩
  have a1 := w e1; have a2 := w e2; have a4 := w e4; have a5 := w e5; have a6 := w e6
  have a3 : o.s ≠ o.t := fun z => by
    rw [z, decide_eq_true rfl] at e3
    cases e3
  exact ⟨by omega, by omega, a3, by omega, by omega, by omega, by omega, by omega⟩
theorem first_bad {α : Type} (f : α → Bool) : ∀ l : List α, (∀ x ∈ l, f x = true) ∨ ∃ i x, l[i]? = some x ∧ f x = false ∧ ∀ y ∈ l.take i, f y = true
  | [] => .inl fun _ h => by cases h
  | a :: r => by
    cases e : f a with
    | false => exact .inr ⟨0, a, rfl, e, fun y h => by cases h⟩
    | true =>
      rcases first_bad f r with h | ⟨i, x, h1, h2, h3⟩
      · refine .inl fun x hx => ?_
        rcases List.mem_cons.mp hx with rfl | z
        · exact e
        · exact h x z
      · refine .inr ⟨i + 1, x, h1, h2, fun y hy => ?_⟩
        rw [List.take_succ_cons] at hy
        rcases List.mem_cons.mp hy with rfl | z
        · exact e
        · exact h3 y z
/-- numbers of a net's text: a net, or what its making refuses -/
theorem net_cases {K : PySem.W.Frag} (p h : Nat) (rows : List (List Nat)) (h5 : ∀ r ∈ rows, r.length = 5) (hl : rows.length ≤ 20) :
    NetOk p h (rows.map odR) ∨ ∃ part i, PyData.strOk part = true ∧ i ≤ 20 ∧ ∀ H t us, H t = some (.tup us) → Paired (RowTup H) us rows → PartsBad K H p h (.ref t) part i := by
  by_cases cp : 1 ≤ p ∧ p ≤ 30
  · by_cases ch : 1 ≤ h ∧ h ≤ 10
    · rcases first_bad (fun r => orderB p h (odR r).vs) rows with g | ⟨i, r, hr, hb, hg⟩
      · refine .inl ⟨cp.1, cp.2, ch.1, ch.2, by rw [List.length_map]; exact hl, fun o ho => ?_⟩
        obtain ⟨r, hr, rfl⟩ := List.mem_map.mp ho
        exact (odOk_iff cp.1 ch.1).mpr (g r hr)
      · have il : i < rows.length := (List.getElem?_eq_some_iff.mp hr).1
        refine .inr ⟨"orders", i, by decide +kernel, by omega, fun H t us ht hP => ?_⟩
        have ul := hP.length
        have key : ∀ {a : V} {r : List Nat}, RowTup H a r → r.length = 5 → H = H ∧ ∃ u, a = .ref u ∧ H u = some (.tup (odR r).vs) := fun {a r} z e => by
          obtain ⟨u, rfl, hu⟩ := z
          rw [odR_row e] at hu
          exact ⟨rfl, u, rfl, hu⟩
        refine .inr ⟨p, rfl, cp.1, cp.2, .inr ⟨h, rfl, ch.1, ch.2, rfl, .inr ⟨t, us, (rows.take i).map odR, rfl, ht, by omega, by omega, by rw [List.length_map, List.length_take]; omega, ?_, fun o ho => ?_, .inr ?_⟩⟩⟩
        · have hT := Paired.take hP i
          have h5' : ∀ r ∈ rows.take i, r.length = 5 := fun r hr => h5 r (List.mem_of_mem_take hr)
          generalize rows.take i = rs at hT h5'
          generalize us.take i = vs at hT
          induction hT with
          | nil => exact .nil
          | cons z _ ih => exact .cons (key z (h5' _ (List.mem_cons_self ..))).2 (ih fun r hr => h5' r (List.mem_cons_of_mem _ hr))
        · obtain ⟨r', hr', rfl⟩ := List.mem_map.mp ho
          exact (odOk_iff cp.1 ch.1).mpr (hg r' hr')
        · obtain ⟨v, hv, z⟩ := Paired.get? (i := i) hP hr
          obtain ⟨_, u, rfl, hu⟩ := key z (h5 r (List.mem_of_getElem? hr))
          refine ⟨_, hv, fun H' s' => .inl ⟨u, _, rfl, s' _ _ hu, fun x hx => ?_, hb.symm⟩⟩
          unfold Od.vs at hx
          simp only [List.mem_cons, List.not_mem_nil, or_false] at hx
          rcases hx with rfl | rfl | rfl | rfl | rfl <;> exact Kn.int
    · exact .inr ⟨"houses", 0, by decide +kernel, by omega, fun H t us _ _ => .inr ⟨p, rfl, cp.1, cp.2, .inl ⟨rfl, rfl, Kn.int, within_out (lo := 1) (hi := 10) ch⟩⟩⟩
  · exact .inr ⟨"period", 0, by decide +kernel, by omega, fun H t us _ _ => .inl ⟨rfl, rfl, Kn.int, within_out (lo := 1) (hi := 30) cp⟩⟩
theorem PartsBad.init {K : PySem.W.Frag} {N x : Addr} {H : Hp} {Q : VK} {E : XK} {p h : Nat} {v : V} {part : Str} {i : Nat} (b : PartsBad K H p h v part i) (q : ∀ d H', Same H H' → H' d = some (.xd (netFs part i)) → E (.ref N) (some d) H') : spInitX K N [.ref x, .int p, .int h, v] H Q E := ⟨x, _, _, _, part, i, rfl, b, q⟩
/-! ### operations of a text: all run, or one is the first that fails -/
theorem odOk_dec {p h : Nat} (hp : 1 ≤ p) (hh : 1 ≤ h) (od : Od) : OdOk p h od ∨ orderB p h od.vs = false := by
  cases e : orderB p h od.vs with
  | true => exact .inl ((odOk_iff hp hh).mpr e)
  | false => exact .inr rfl
theorem run_cases {p h : Nat} {S : OffS} (k : OkS p h S) (op : Opn) : OpnOk S op ∨ ∃ i, BadN S op i := by
  have kc := k.cur
  have l20 := kc.len
  have p1 : 1 ≤ S.p := by rw [k.pe]; exact kc.p1
  have h1 : 1 ≤ S.h := by rw [k.he]; exact kc.h1
  cases op with
  | add od =>
    rcases odOk_dec p1 h1 od with z | z
    · by_cases c : S.cur.length < 20
      · exact .inl ⟨z, c⟩
      · exact .inr ⟨5, .inr ⟨z, by omega, rfl⟩⟩
    · exact .inr ⟨4, .inl ⟨z, rfl⟩⟩
  | cancel n =>
    by_cases c : n < S.cur.length
    · exact .inl ⟨c, l20⟩
    · exact .inr ⟨2, c, rfl⟩
  | prolong n m =>
    by_cases c : n < S.cur.length
    · have e := List.getElem?_eq_getElem c
      rcases odOk_dec p1 h1 (proO S.cur[n] m) with z | z
      · exact .inl ⟨_, e, l20, z⟩
      · exact .inr ⟨4, .inr ⟨_, e, z, rfl⟩⟩
    · exact .inr ⟨2, .inl ⟨c, rfl⟩⟩
  | rais n =>
    by_cases c : n < S.cur.length
    · exact .inl ⟨c, l20⟩
    · exact .inr ⟨2, c, rfl⟩
  | undo => exact .inl trivial
  | redo => exact .inl trivial
theorem OkS.nextN {p h : Nat} {S : OffS} {op : Opn} (k : OkS p h S) (g : OpnOk S op) : OkS p h (nextO S op) := by
  have kc := k.cur
  have l20 := kc.len
  cases op with
  | add od =>
    obtain ⟨g1, g2⟩ := g
    rw [k.pe, k.he] at g1
    refine k.step ⟨kc.p1, kc.p30, kc.h1, kc.h10, ?_, fun o z => ?_⟩ (by decide +kernel)
    · rw [List.length_append]
      show _ + 1 ≤ 20
      omega
    · rcases List.mem_append.mp z with z | z
      · exact kc.ok o z
      · rw [List.mem_singleton.mp z]
        exact g1
  | cancel n => exact k.step (wo_ok kc) (by decide +kernel)
  | prolong n m =>
    obtain ⟨od, e, _, g1⟩ := g
    rw [k.pe, k.he] at g1
    have lt := (List.getElem?_eq_some_iff.mp e).1
    refine k.step ?_ (by decide +kernel)
    rw [e]
    exact setOd_ok kc lt g1
  | rais n =>
    obtain ⟨lt, _⟩ := g
    have eg := List.getElem?_eq_getElem lt
    refine k.step ?_ (by decide +kernel)
    rw [eg]
    have wk := wo_ok (k := n) kc
    refine ⟨kc.p1, kc.p30, kc.h1, kc.h10, ?_, fun o z => ?_⟩
    · show (wo S.cur n).length + 1 ≤ 20
      unfold wo
      rw [List.length_append, List.length_take, List.length_drop]
      omega
    · rcases List.mem_cons.mp z with z | z
      · rw [z]
        exact kc.ok _ (List.getElem_mem lt)
      · exact wk.ok o z
  | undo => exact ⟨k.pe, k.he, Nat.le_trans (Nat.sub_le _ _) k.e, k.os, k.st⟩
  | redo => exact ⟨k.pe, k.he, Nat.min_le_right _ _, k.os, k.st⟩
theorem go_cases {p h : Nat} : ∀ (ops : List Opn) {S : OffS}, OkS p h S → GoAll S ops ∨ ∃ n bad i, ops[n]? = some bad ∧ (∀ j op, j < n → ops[j]? = some op → OpnOk (nextAll S (ops.take j)) op) ∧ BadN (nextAll S (ops.take n)) bad i
  | [], _, _ => .inl trivial
  | op :: r, S, k => by
    rcases run_cases k op with g | ⟨i, b⟩
    · rcases go_cases r (k.nextN g) with h | ⟨n, bad, i, h1, h2, h3⟩
      · exact .inl ⟨g, h⟩
      · refine .inr ⟨n + 1, bad, i, h1, fun j o hj ho => ?_, h3⟩
        cases j with
        | zero =>
          obtain rfl : op = o := Option.some.inj ho
          exact g
        | succ j => exact h2 j o (by omega) ho
    · exact .inr ⟨0, op, i, rfl, fun j o hj => absurd hj (Nat.not_lt_zero j), b⟩
theorem Lk.okN {S S' : OffS} {op : Opn} (k : Lk S S') (g : OpnOk S op) : OpnOk S' op := by
  have e := k.cur
  cases op with
  | add od => exact ⟨by rw [k.pe, k.he]; exact g.1, by rw [e]; exact g.2⟩
  | cancel n => exact ⟨by rw [e]; exact g.1, by rw [e]; exact g.2⟩
  | prolong n m =>
    obtain ⟨od, g1, g2, g3⟩ := g
    exact ⟨od, by rw [e]; exact g1, by rw [e]; exact g2, by rw [k.pe, k.he]; exact g3⟩
  | rais n => exact ⟨by rw [e]; exact g.1, by rw [e]; exact g.2⟩
  | undo => exact trivial
  | redo => exact trivial
theorem Lk.badN {S S' : OffS} {op : Opn} {i : Nat} (k : Lk S S') (g : BadN S op i) : BadN S' op i := by
  have e := k.cur
  cases op with
  | add od =>
    rcases g with ⟨g1, g2⟩ | ⟨g1, g2, g3⟩
    · exact .inl ⟨by rw [k.pe, k.he]; exact g1, g2⟩
    · exact .inr ⟨by rw [k.pe, k.he]; exact g1, by rw [e]; exact g2, g3⟩
  | cancel n => exact ⟨by rw [e]; exact g.1, g.2⟩
  | prolong n m =>
    rcases g with ⟨g1, g2⟩ | ⟨od, g1, g2, g3⟩
    · exact .inl ⟨by rw [e]; exact g1, g2⟩
    · exact .inr ⟨od, by rw [e]; exact g1, by rw [k.pe, k.he]; exact g2, g3⟩
  | rais n => exact ⟨by rw [e]; exact g.1, g.2⟩
  | undo => exact g
  | redo => exact g
theorem Lk.goAll : ∀ (ops : List Opn) {S S' : OffS}, Lk S S' → GoAll S ops → GoAll S' ops
  | [], _, _, _, _ => trivial
  | op :: r, _, _, k, g => ⟨k.okN g.1, Lk.goAll r (k.next op) g.2⟩
/-- a session's operations: all run, or one is the first that fails -/
theorem sess_cases {p h : Nat} {os : List Od} (ok : NetOk p h os) (ops : List Opn) : (∀ x t F sn, GoAll ⟨x, t, p, h, os, F, [], 0, sn⟩ ops) ∨ ∃ n, StopsAt p h os ops n := by
  have k0 : OkS p h ⟨0, 0, p, h, os, [], [], 0, 0⟩ := ⟨rfl, rfl, Nat.le_refl _, ok, fun s hs => by cases hs⟩
  have lk : ∀ x t F sn, Lk ⟨0, 0, p, h, os, [], [], 0, 0⟩ ⟨x, t, p, h, os, F, [], 0, sn⟩ := fun _ _ _ _ => ⟨rfl, rfl, rfl, rfl, rfl⟩
  rcases go_cases ops k0 with g | ⟨n, bad, i, h1, h2, h3⟩
  · exact .inl fun x t F sn => Lk.goAll ops (lk x t F sn) g
  · exact .inr ⟨n, fun x t F sn => ⟨fun j op hj ho => (Lk.all _ (lk x t F sn)).okN (h2 j op hj ho), bad, i, h1, (Lk.all _ (lk x t F sn)).badN h3⟩⟩
/-- a word that a dict of the module does not have -/
def DctNo (K : PySem.W.Frag) (mg : Str → Option Value) (x s : Str) : Prop := ∃ d, mg x = some (.ref d) ∧ PySem.W.nsIn K d s = some none
/-! ### a line of a session, whatever it is -/
def cntOf (w : Str) : Option Nat := if w = "add" then some 5 else if w = "cancel" then some 1 else if w = "prolong" then some 2 else if w = "raise" then some 1 else if w = "undo" then some 0 else if w = "redo" then some 0 else none
def mkOp (w : Str) (ns : List Nat) : Opn := if w = "add" then .add (odR ns) else if w = "cancel" then .cancel (ns.getD 0 0) else if w = "prolong" then .prolong (ns.getD 0 0) (ns.getD 1 0) else if w = "raise" then .rais (ns.getD 0 0) else if w = "undo" then .undo else .redo
/-- the operation of a line of words, or none -/
def opW (l : List Str) : Option Opn := match l with
  | [] => none
  | w :: ws => match cntOf w with
    | none => none
    | some c => (rowOf w c (w :: ws) (ws.map valW)).map (mkOp w)
theorem cntOf_cases {w : Str} {c : Nat} (h : cntOf w = some c) : (w = "add" ∧ c = 5) ∨ (w = "cancel" ∧ c = 1) ∨ (w = "prolong" ∧ c = 2) ∨ (w = "raise" ∧ c = 1) ∨ (w = "undo" ∧ c = 0) ∨ (w = "redo" ∧ c = 0) := by
  unfold cntOf at h
  by_cases c1 : w = "add"
  · rw [if_pos c1] at h
    exact .inl ⟨c1, (Option.some.inj h).symm⟩
  rw [if_neg c1] at h
  by_cases c2 : w = "cancel"
  · rw [if_pos c2] at h
    exact .inr (.inl ⟨c2, (Option.some.inj h).symm⟩)
  rw [if_neg c2] at h
  by_cases c3 : w = "prolong"
  · rw [if_pos c3] at h
    exact .inr (.inr (.inl ⟨c3, (Option.some.inj h).symm⟩))
  rw [if_neg c3] at h
  by_cases c4 : w = "raise"
  · rw [if_pos c4] at h
    exact .inr (.inr (.inr (.inl ⟨c4, (Option.some.inj h).symm⟩)))
  rw [if_neg c4] at h
  by_cases c5 : w = "undo"
  · rw [if_pos c5] at h
    exact .inr (.inr (.inr (.inr (.inl ⟨c5, (Option.some.inj h).symm⟩))))
  rw [if_neg c5] at h
  by_cases c6 : w = "redo"
  · rw [if_pos c6] at h
    exact .inr (.inr (.inr (.inr (.inr ⟨c6, (Option.some.inj h).symm⟩))))
  rw [if_neg c6] at h
  cases h
theorem cntOf_nums {w : Str} {c : Nat} (h : cntOf w = some c) : (w, ((c : Nat) : Int)) ∈ numsL := by
  rcases cntOf_cases h with ⟨rfl, rfl⟩ | ⟨rfl, rfl⟩ | ⟨rfl, rfl⟩ | ⟨rfl, rfl⟩ | ⟨rfl, rfl⟩ | ⟨rfl, rfl⟩ <;> simp [numsL]
theorem rowOf_some {w0 : Str} {c : Nat} {ws : List Str} {r : List Nat} (h : rowOf w0 c (w0 :: ws) (ws.map valW) = some r) : ws.length = c ∧ (∀ z ∈ ws, (valW z).isSome = true) ∧ r = ws.filterMap valW := by
  have h : (if w0 = w0 ∧ (ws.map valW).length = c ∧ (ws.map valW).all Option.isSome = true then some ((ws.map valW).filterMap id) else none) = some r := h
  by_cases d : w0 = w0 ∧ (ws.map valW).length = c ∧ (ws.map valW).all Option.isSome = true
  · rw [if_pos d] at h
    obtain ⟨_, c2, c3⟩ := d
    rw [List.length_map] at c2
    refine ⟨c2, fun z hz => List.all_eq_true.mp c3 _ (List.mem_map_of_mem hz), ?_⟩
    rw [← Option.some.inj h, List.filterMap_map]
    rfl
  · rw [if_neg d] at h
    cases h
theorem fm_len {ws : List Str} (h : ∀ z ∈ ws, (valW z).isSome = true) : (ws.filterMap valW).length = ws.length := by
  induction ws with
  | nil => rfl
  | cons w r ih =>
    have h1 := h w (List.mem_cons_self ..)
    cases e : valW w with
    | none =>
      rw [e] at h1
      cases h1
    | some n =>
      rw [List.filterMap_cons_some e, List.length_cons, List.length_cons, ih fun z hz => h z (List.mem_cons_of_mem _ hz)]
theorem opW_no {w : Str} {ws : List Str} (h : cntOf w = none) : opW (w :: ws) = none := by
  show (match cntOf w with | none => none | some c => (rowOf w c (w :: ws) (ws.map valW)).map (mkOp w)) = none
  rw [h]
theorem opW_row {w : Str} {ws : List Str} {c : Nat} (h : cntOf w = some c) : opW (w :: ws) = (rowOf w c (w :: ws) (ws.map valW)).map (mkOp w) := by
  show (match cntOf w with | none => none | some c => (rowOf w c (w :: ws) (ws.map valW)).map (mkOp w)) = _
  rw [h]
theorem mkOp_add {ns : List Nat} : mkOp "add" ns = .add (odR ns) := if_pos rfl
theorem mk_at {w : Str} {c : Nat} {ns : List Nat} {H : Hp} {b : Addr} (h : cntOf w = some c) (hl : ns.length = c) (na : w ≠ "add") (hb : H b = some (.tup (.str w :: nints ns))) : OpnAt H b (mkOp w ns) := by
  have n1 : ¬ ("cancel" : Str) = "add" := by decide +kernel
  have n2 : ¬ ("prolong" : Str) = "add" := by decide +kernel
  have n3 : ¬ ("prolong" : Str) = "cancel" := by decide +kernel
  have n4 : ¬ ("raise" : Str) = "add" := by decide +kernel
  have n5 : ¬ ("raise" : Str) = "cancel" := by decide +kernel
  have n6 : ¬ ("raise" : Str) = "prolong" := by decide +kernel
  have n7 : ¬ ("undo" : Str) = "add" := by decide +kernel
  have n8 : ¬ ("undo" : Str) = "cancel" := by decide +kernel
  have n9 : ¬ ("undo" : Str) = "prolong" := by decide +kernel
  have n10 : ¬ ("undo" : Str) = "raise" := by decide +kernel
  have n11 : ¬ ("redo" : Str) = "add" := by decide +kernel
  have n12 : ¬ ("redo" : Str) = "cancel" := by decide +kernel
  have n13 : ¬ ("redo" : Str) = "prolong" := by decide +kernel
  have n14 : ¬ ("redo" : Str) = "raise" := by decide +kernel
  have n15 : ¬ ("redo" : Str) = "undo" := by decide +kernel
  unfold mkOp
  rcases cntOf_cases h with ⟨rfl, rfl⟩ | ⟨rfl, rfl⟩ | ⟨rfl, rfl⟩ | ⟨rfl, rfl⟩ | ⟨rfl, rfl⟩ | ⟨rfl, rfl⟩
  · exact absurd rfl na
  · match ns, hl with
    | [k], _ =>
      rw [if_neg n1, if_pos rfl]
      exact hb
  · match ns, hl with
    | [k, n], _ =>
      rw [if_neg n2, if_neg n3, if_pos rfl]
      exact hb
  · match ns, hl with
    | [k], _ =>
      rw [if_neg n4, if_neg n5, if_neg n6, if_pos rfl]
      exact hb
  · match ns, hl with
    | [], _ =>
      rw [if_neg n7, if_neg n8, if_neg n9, if_neg n10, if_pos rfl]
      exact hb
  · match ns, hl with
    | [], _ =>
      rw [if_neg n11, if_neg n12, if_neg n13, if_neg n14, if_neg n15]
      exact hb
def OptOpn (H : Hp) (v : V) : Option Opn → Prop
  | none => v = .non
  | some op => ∃ b, v = .ref b ∧ OpnAt H b op
/-- lines of a law's words -/
structure LnG (WS : List Str) (l : List Str) : Prop where
  ne : l ≠ []
  len : l.length ≤ 40
  wg : ∀ z ∈ l, WG z
  ws : ∀ z ∈ l, z ∈ WS
theorem LnG.lsG {WS : List Str} {l : List Str} (g : LnG WS l) : LsG [l] := ⟨by simp, by show 1 ≤ 60; decide, fun l' h => by rw [List.mem_singleton.mp h]; exact ⟨g.ne, g.len, g.wg⟩⟩
theorem LnG.line {WS : List Str} {l : List Str} (g : LnG WS l) : Txt.split (lineW l) " " = l := g.lsG.line (List.mem_singleton.mpr rfl)
theorem LnG.llen {WS : List Str} {l : List Str} (g : LnG WS l) : (lineW l).length ≤ 440 := g.lsG.llen (List.mem_singleton.mpr rfl)
def spReadOpG (WS : List Str) : Sp := fun vs H Q _ => ∃ (l : List Str), vs = [.str (lineW l)] ∧ LnG WS l ∧ ∀ H' v, Same H H' → OptOpn H' v (opW l) → Q v H'
section
variable {P : Program} {w : World} {K : PySem.W.Frag} {mg : Str → Option Value} {base : Heap}
set_option maxHeartbeats 0 in
theorem ok_read_opG {f : Addr} {fd : FuncData} {WS : List Str} (F : Fun K "read_operation" "read_operation" s_read_operation f fd) (DN : DctA K w mg "NUMBERS" numsL) (DO : ∀ z ∈ WS, cntOf z = none → DctNo K mg "NUMBERS" z) (DL : Df P w K mg base "read_line" 3 P_read_line spLine) : FnOk P w K mg base CX0 4 f fd P_read_operation (spReadOpG WS) := by
  obtain ⟨fL, dL, gL, kL, bL, GL⟩ := DL
  obtain ⟨d, es, n0, hg, D, hk⟩ := DN.ex
  refine F.ok sc_read_operation (fun vs H Q E h => ?_) (fun cdv A outer s H vs Q E hr h => ?_)
  · obtain ⟨l, rfl, _⟩ := h
    rfl
  · obtain ⟨l, rfl, g, q⟩ := h
    refine ⟨_, pss_cons (ps_set (i := 1) sc_read_operation.nd rfl (.inl rfl) (pe_ix ix_list (pe_split (pv 0) pe_str) pe_int (fun _ _ => rfl)))
      (pss_cons (ps_if (pt_cmpR (op_notIn_kd D) (pv 1) (pe_glob (v := .ref d) rfl hg rfl) rfl) (pss_one (ps_ret pe_non)) pss_nil)
      (pss_cons (ps_set (i := 2) sc_read_operation.nd rfl (.inl rfl) (pe_call GL hr (by rfl) gL kL bL .nil pass0 (pa_cons (pv 0) (pa_cons (pv 1) (pa_cons (pe_ix ix_kdict (pe_glob (v := .ref d) rfl hg rfl) (pv 1) (fun _ _ => rfl)) pa_nil)))))
      (pss_cons (ps_if (pt_cmpR op_isN (pv 2) pe_non (nomark _)) (pss_one (ps_ret pe_non)) pss_nil)
      (pss_cons (ps_if (pt_cmpR op_eq (pv 1) pe_str (nomark _)) (pss_one (ps_ret (pe_tup (pa_cons (pv 1) (pa_cons (pv 2) pa_nil))))) pss_nil)
      (pss_one (ps_ret (pe_op op_catA (pe_tup (pa_cons (pv 1) pa_nil)) (pv 2)))))))), ?_⟩
    have ll := g.llen
    have sp := g.line
    cases l with
    | nil => exact absurd rfl g.ne
    | cons w0 ws =>
    have hw : ∀ z ∈ ws, WG z := fun z hz => g.wg z (List.mem_cons_of_mem _ hz)
    have l40 : ws.length ≤ 39 := by have := g.len; rw [List.length_cons] at this; omega
    refine ⟨_, rfl, ⟨_, rfl⟩, lineW (w0 :: ws), " ", rfl, rfl, rfl, by rw [sizeLine_eq]; omega, fun p np => ?_⟩
    rw [sp]
    have s1 := same_upd (o := HO.lst ((w0 :: ws).map V.str)) np
    refine ⟨p, _, 0, .str w0, rfl, rfl, SqL.of upd_same, atI_nat (j := 0) rfl, ?_⟩
    generalize (L2.upd H p (.lst ((w0 :: ws).map V.str))) = H1 at s1
    cases ec : cntOf w0 with
    | none =>
      obtain ⟨d', hg', hno⟩ := DO w0 (g.ws w0 (List.mem_cons_self ..)) ec
      obtain rfl : d = d' := by
        have := hg.symm.trans hg'
        cases this
        rfl
      refine ⟨_, rfl, _, _, rfl, rfl, hno, true, rfl, iteT (q H1 .non s1 ?_)⟩
      rw [opW_no ec]
      rfl
    | some c =>
      obtain ⟨tk, hn⟩ := hk _ (cntOf_nums ec)
      refine ⟨_, rfl, _, _, rfl, rfl, hn, false, rfl, iteF ?_⟩
      refine ⟨_, rfl, _, rfl, _, rfl, d, _, .int (c : Nat), rfl, rfl, ⟨es, n0, _, D.at_, D.lit, hn, ⟨_, rfl⟩⟩, ?_⟩
      refine ⟨lineW (w0 :: ws), w0, w0, c, ws, ws.map valW, rfl, by omega, sp, by omega, wgs hw, fun H2 v s2 hv => ?_⟩
      have s12 := s1.trans s2
      have eo := opW_row (ws := ws) ec
      cases er : rowOf w0 c (w0 :: ws) (ws.map valW) with
      | none =>
        rw [er] at hv eo
        have hv : v = .non := hv
        subst hv
        refine ⟨_, rfl, rfl, _, rfl, iteT (q H2 .non s12 ?_)⟩
        rw [eo]
        rfl
      | some ns =>
        rw [er] at hv eo
        obtain ⟨r1, r2, r3⟩ := rowOf_some er
        have nl : ns.length = c := by rw [r3, fm_len r2, r1]
        obtain ⟨u, rfl, nu, hu⟩ := hv
        refine ⟨_, rfl, rfl, _, rfl, iteF ?_⟩
        by_cases ca : w0 = "add"
        · refine ⟨_, rfl, rfl, _, rfl, ?_⟩
          subst ca
          refine str_eqT ⟨_, rfl, _, rfl, (by show 2 ≤ sizeLine; decide), fun b nb => ?_⟩
          have s3 := same_upd (o := HO.tup [.str "add", .ref u]) nb
          refine q _ _ (s12.trans s3) ?_
          rw [eo]
          have c5 : c = 5 := by
            rcases cntOf_cases ec with z | z | z | z | z | z
            · exact z.2
            · exact absurd z.1 (by decide +kernel)
            · exact absurd z.1 (by decide +kernel)
            · exact absurd z.1 (by decide +kernel)
            · exact absurd z.1 (by decide +kernel)
            · exact absurd z.1 (by decide +kernel)
          rw [odR_row (nl.trans c5)] at hu
          show OptOpn _ _ (some (mkOp "add" ns))
          rw [mkOp_add]
          exact ⟨b, rfl, .ref u, upd_same, u, rfl, s3 _ _ hu⟩
        · refine ⟨_, rfl, rfl, _, rfl, str_eqF ca ?_⟩
          refine ⟨_, rfl, (by show 1 ≤ sizeLine; decide), fun c1 nc => ?_⟩
          have s3 := same_upd (o := HO.tup [.str w0]) nc
          refine ⟨_, rfl, catA_case upd_same (s3 _ _ hu) (Nat.le_of_lt (small1000 (by unfold nints; rw [List.length_map, nl, ← r1]; show 1 + ws.length ≤ 1000; omega))) fun b H4 s4 hb => ?_⟩
          refine q _ _ (s12.trans (s3.trans s4)) ?_
          rw [eo]
          exact ⟨b, rfl, mk_at ec nl ca hb⟩
end
/-! ### the lines of a session's operations, whatever they are -/
def opsW (Ls : List (List Str)) : List Opn := Ls.filterMap opW
def spReadOpsG (D : Addr) (WS : List Str) : Sp := fun vs H Q E => ∃ (l : Addr) (pre : List Str) (Ls : List (List Str)), vs = [.ref l, .int (pre.length : Nat)] ∧ H l = some (.lst ((pre ++ Ls.map lineW).map V.str)) ∧ pre.length ≤ 100 ∧ Ls.length ≤ 100 ∧ (∀ l ∈ Ls, LnG WS l) ∧
  ((∀ l ∈ Ls, (opW l).isSome = true) → ∀ H' r, Same H H' → H r = none → OpsAt H' r (opsW Ls) → Q (.ref r) H') ∧
  (∀ j l, Ls[j]? = some l → opW l = none → (∀ l' ∈ Ls.take j, (opW l').isSome = true) → ∀ d H', Same H H' → H' d = some (.xd (oneFs "line" (pre.length + j))) → E (.ref D) (some d) H')
section
variable {P : Program} {w : World} {K : PySem.W.Frag} {mg : Str → Option Value} {base : Heap}
set_option maxHeartbeats 0 in
theorem ok_read_opsG {f D : Addr} {ps : List Str} {fd : FuncData} {WS : List Str} (F : Fun K "read_operations" "read_operations" s_read_operations f fd) (B : Blt mg) (NE : OneErr P w K mg base "TextFault" "line" ps D) (DR : Df P w K mg base "read_operation" 4 P_read_operation (spReadOpG WS)) : FnOk P w K mg base (L2.CX P w) 5 f fd P_read_operations (spReadOpsG D WS) := by
  obtain ⟨fR, dR, gR, kR, bR, GR⟩ := DR
  refine F.okX sc_read_operations (fun vs H Q E h => ?_) (fun cdv A outer s H vs Q E hr h => ?_)
  · obtain ⟨l, pre, Ls, rfl, _⟩ := h
    rfl
  · obtain ⟨l, pre, Ls, rfl, hl, pl, ol, g, q, qe⟩ := h
    have hr3 : Room 3 _ := hr.mono (by decide)
    refine ⟨_, pss_cons (ps_set (i := 2) sc_read_operations.nd rfl (.inl rfl) (pe_lst pa_nil))
      (pss_cons (ps_for (passes_of rfl) rfl (pi_enumS (by rfl) B.enum (pa_cons (pe_slice sl_list (pv 0) (po_some (pv 1)) po_none) pa_nil) (pk_cons (pv 1) pk_nil)) (pg_tup (by rfl) (pgs_cons (pg_name (i := 3) sc_read_operations.nd rfl (.inl rfl)) (pgs_cons (pg_name (i := 4) sc_read_operations.nd rfl (.inl rfl)) pgs_nil)))
        (pss_cons (ps_set (i := 5) sc_read_operations.nd rfl (.inl rfl) (pe_call GR hr (by rfl) gR kR bR .nil pass0 (pa_cons (pv 4) pa_nil)))
        (pss_cons (ps_if (pt_cmpR op_isN (pv 5) pe_non (nomark _)) (pss_one (ps_raise rfl (takes_of rfl rfl rfl rfl) (pmk_oneerr NE hr3 (by rfl) (pa_cons (pv 3) pa_nil)))) pss_nil)
        (pss_one (ps_expr (pe_bm PySem.F.plainAttrs_list PySem.F.slot_list_append PySem.F.type_list_append mt_append (pv 2) (pa_cons (pv 5) pa_nil)))))))
      (pss_one (ps_ret (pv 2)))), ?_⟩
    refine ⟨(by show 0 ≤ sizeLine; decide), fun r nr => ?_⟩
    have s1 := same_upd (o := HO.lst []) nr
    refine ⟨_, rfl, _, rfl, (pre.length : Nat), rfl, l, _, rfl, SqL.of (s1 _ _ hl), fun cl ncl => ?_⟩
    rw [show cutV ((pre ++ Ls.map lineW).map V.str) (some ((pre.length : Nat) : Int)) none = ((Ls.map lineW).map V.str) by rw [cut_from, List.map_append, List.drop_left' (by rw [List.length_map])]]
    have s2 := same_upd (o := HO.lst ((Ls.map lineW).map V.str)) ncl
    have nrc : r ≠ cl := ne_of_none upd_same ncl
    refine ⟨_, rfl, cl, (pre.length : Nat), _, rfl, rfl, by omega, by omega, upd_same, ?_⟩
    refine for_enumS (K := K) (a := cl) (xs := (Ls.map lineW).map V.str) (fun i σ H' => (∃ x3 x4 x5, σ = [some (.ref l), some (.int (pre.length : Nat)), some (.ref r), x3, x4, x5]) ∧ Same H H' ∧ H' cl = some (.lst ((Ls.map lineW).map V.str)) ∧ OpsAt H' r (opsW (Ls.take i)) ∧ ∀ l' ∈ Ls.take i, (opW l').isSome = true)
      ⟨⟨_, _, _, rfl⟩, s1.trans s2, upd_same, ⟨[], s2 _ _ upd_same, .nil⟩, fun l' h => by cases h⟩ (fun i σ H' ⟨_, _, h', _⟩ => h') ?_ ?_
    · rintro i x σ H1 T hi ⟨⟨x3, x4, x5, rfl⟩, s3, hcl, ⟨rs, hr1, hR⟩, hsome⟩ nT
      rw [List.getElem?_map, List.getElem?_map] at hi
      obtain ⟨ln, hln, rfl⟩ := Option.map_eq_some_iff.mp hi
      obtain ⟨lw, hlw, rfl⟩ := Option.map_eq_some_iff.mp hln
      have li : i < Ls.length := (List.getElem?_eq_some_iff.mp hlw).1
      have s4 := same_upd (o := HO.tup [.int (((pre.length : Nat) : Int) + (i : Nat)), .str (lineW lw)]) nT
      refine ⟨T, _, rfl, SqT.of upd_same, rfl, _, _, rfl, _, _, rfl, rfl, ?_⟩
      refine ⟨_, rfl, lw, rfl, g lw (List.mem_of_getElem? hlw), fun H2 v s5 hv => ?_⟩
      have s45 := s4.trans s5
      cases eo : opW lw with
      | none =>
        rw [eo] at hv
        have hv : v = .non := hv
        subst hv
        refine ⟨_, rfl, rfl, _, rfl, iteT ⟨_, rfl, pre.length + i, congrArg (fun z => [V.int z]) (by omega), by omega, fun d H3 nd hd oth => ?_⟩⟩
        exact qe i lw hlw eo hsome d H3 ((s3.trans s45).trans (same_ext nd oth)) hd
      | some op =>
        rw [eo] at hv
        obtain ⟨b, rfl, hb⟩ := hv
        have hr2 := s45 _ _ hr1
        have rl := hR.length
        have rl2 : (opsW (Ls.take i)).length ≤ Ls.length := Nat.le_trans (List.length_filterMap_le _ _) (by rw [List.length_take]; omega)
        refine ⟨_, rfl, rfl, _, rfl, iteF ⟨_, rfl, .inl ⟨rfl, _, SqL.of hr2⟩, _, rfl, r, _, _, rfl, rfl, hr2, small1000 (by omega), ?_⟩⟩
        have k := TupKeep.lst (o := HO.lst (rs ++ [.ref b])) hr2
        have et : opsW (Ls.take (i + 1)) = opsW (Ls.take i) ++ [op] := by
          unfold opsW
          rw [List.take_add_one, hlw, List.filterMap_append]
          simp [eo]
        refine ⟨⟨_, _, _, rfl⟩, fun z ob e => ?_, (upd_ne nrc.symm).trans (s45 _ _ hcl), ⟨rs ++ [.ref b], upd_same, ?_⟩, fun l' hl' => ?_⟩
        · rw [upd_ne (ne_of_none e nr)]
          exact s45 _ _ (s3 _ _ e)
        · rw [et]
          refine Paired.snoc (Paired.mapP hR fun _ _ z => ?_) ⟨b, rfl, hb.keep k⟩
          obtain ⟨a, e, ha⟩ := z
          exact ⟨a, e, (ha.keep (tk_of s45)).keep k⟩
        · rw [List.take_add_one, hlw] at hl'
          rcases List.mem_append.mp hl' with z | z
          · exact hsome l' z
          · obtain rfl := List.mem_singleton.mp z
            rw [eo]
            rfl
    · rintro σ H1 ⟨⟨x3, x4, x5, rfl⟩, s3, hcl, hO, hsome⟩
      rw [List.length_map, List.length_map, List.take_length] at hO hsome
      exact ⟨_, rfl, q hsome H1 r s3 nr hO⟩
end
/-! ### a session's text, whatever is wrong in it -/
theorem line_changes {WS : List Str} {l : List Str} (g : LnG WS l) : lineW l = "changes" ↔ l = [("changes" : Str)] := by
  constructor
  · intro e
    have h := g.line
    rw [e] at h
    rw [← h]
    decide +kernel
  · rintro rfl
    decide +kernel
def spParseSG (K : PySem.W.Frag) (C DT N DO : Addr) (WS : List Str) : Sp := fun vs H _ E => ∃ (Ls : List (List Str)), vs = [.str (textW Ls)] ∧ Ls ≠ [] ∧ Ls.length ≤ 60 ∧ (∀ l ∈ Ls, LnG WS l) ∧
  (((∀ l ∈ Ls, l ≠ [("changes" : Str)]) ∧ ∀ d H', Same H H' → H' d = some (.xd (oneFs "line" Ls.length)) → E (.ref DT) (some d) H') ∨
   ∃ m, Ls[m]? = some [("changes" : Str)] ∧ (∀ i l, i < m → Ls[i]? = some l → l ≠ [("changes" : Str)]) ∧
    ((∀ H' (Q' : VK), Same H H' → spParseX K C DT N [.ref C, .str (Txt.join "\n" ((Ls.take m).map lineW))] H' Q' E) ∨
     ∃ p h os, Txt.join "\n" ((Ls.take m).map lineW) = textOf p h os ∧ NetOk p h os ∧
      ((∃ j l, (Ls.drop (m + 1))[j]? = some l ∧ opW l = none ∧ (∀ l' ∈ (Ls.drop (m + 1)).take j, (opW l').isSome = true) ∧ ∀ d H', Same H H' → H' d = some (.xd (oneFs "line" (m + 1 + j))) → E (.ref DT) (some d) H') ∨
       ((∀ l ∈ Ls.drop (m + 1), (opW l).isSome = true) ∧ ∃ k, StopsAt p h os (opsW (Ls.drop (m + 1))) k ∧ ∀ d H', Same H H' → H' d = some (.xd (oneFs "place" k)) → E (.ref DO) (some d) H'))))
theorem eqV_str (x y : Str) : eqV (.str x) (.str y) = decide (x = y) := by
  show (x == y) = _
  by_cases c : x = y
  · subst c
    rw [decide_eq_true rfl]
    exact beq_self_eq_true x
  · rw [decide_eq_false c]
    exact beq_eq_false_iff_ne.mpr c
theorem strs_flat (ls : List Str) : (ls.map V.str).all flatV = true := by
  rw [List.all_map]
  exact List.all_eq_true.mpr fun _ _ => rfl
theorem inV_strs (x : Str) (ls : List Str) : inV (.str x) (ls.map V.str) = decide (x ∈ ls) := by
  unfold inV
  rw [List.any_map]
  by_cases c : x ∈ ls
  · rw [decide_eq_true c]
    refine List.any_eq_true.mpr ⟨x, c, ?_⟩
    show eqV (.str x) (.str x) = true
    rw [eqV_str, decide_eq_true rfl]
  · rw [decide_eq_false c]
    refine List.any_eq_false.mpr fun y hy => ?_
    show ¬ eqV (.str y) (.str x) = true
    rw [eqV_str, decide_eq_false fun z => c (by rw [← z]; exact hy)]
    exact Bool.false_ne_true
theorem changes_in {WS : List Str} {Ls : List (List Str)} (g : ∀ l ∈ Ls, LnG WS l) : ("changes" : Str) ∈ Ls.map lineW ↔ [("changes" : Str)] ∈ Ls := by
  constructor
  · intro h
    obtain ⟨l, hl, e⟩ := List.mem_map.mp h
    rw [← (line_changes (g l hl)).mp e]
    exact hl
  · intro h
    exact List.mem_map.mpr ⟨_, h, (line_changes (g _ h)).mpr rfl⟩
section
variable {P : Program} {w : World} {K : PySem.W.Frag} {mg : Str → Option Value} {base : Heap}
set_option maxHeartbeats 0 in
theorem ok_parse_sessG {f O C DT N DO pP fP pR fR : Addr} {ps : List Str} {WS : List Str} {fd fdP fdR : FuncData} (F : Fun K "parse_session" "parse_session" s_parse_session f fd) (B : Blt mg) (NT : OneErr P w K mg base "TextFault" "line" ps DT) (gO : mg "Office" = some (.ref O)) (rO : ClX.CRead K O (.type "type")) (cR : ClX.CMet K O (.type "type") "replay" pR fR) (GR : FnOk P w K mg base (L2.CX P w) 6 fR fdR P_Office_replay (spReplayG O C DO)) (bR : Binds K fdR P_Office_replay [])
    (gC : mg "Net" = some (.ref C)) (rC : ClX.CRead K C (.type "type")) (cP : ClX.CMet K C (.type "type") "parse" pP fP) (GP : FnOk P w K mg base CX0 7 fP fdP P_Net_parse (spParse C)) (GPX : FnOk P w K mg base (L2.CX P w) 7 fP fdP P_Net_parse (spParseX K C DT N)) (bP : Binds K fdP P_Net_parse [])
    {fO : Addr} {dO : FuncData} (gRO : mg "read_operations" = some (.ref fO)) (kRO : PySem.W.keepIn K (.ref fO) = true) (bRO : Binds K dO P_read_operations []) (GRO : FnOk P w K mg base (L2.CX P w) 5 fO dO P_read_operations (spReadOpsG DT WS)) : FnOk P w K mg base (L2.CX P w) 8 f fd P_parse_session (spParseSG K C DT N DO WS) := by
  have FR := GR.raw bR .nil
  have FP : FnR P w K mg base (L2.CX P w) 7 fP (fun vs H Q E => spParse C vs H Q E ∨ spParseX K C DT N vs H Q E) := ((FnOk.or (FnOk.up GP) GPX).raw bP .nil).imp fun vs H Q E h => by rw [List.append_nil]; exact h
  refine F.okX sc_parse_session (fun vs H Q E h => ?_) (fun cdv A outer s H vs Q E hr h => ?_)
  · obtain ⟨Ls, rfl, _⟩ := h
    rfl
  · obtain ⟨Ls, rfl, lne, l60, g, hc⟩ := h
    have hr6 : Room 6 _ := hr.mono (by decide)
    have hr5 : Room 5 _ := hr.mono (by decide)
    have hr3 : Room 3 _ := hr.mono (by decide)
    refine ⟨_, pss_cons (ps_if (pt_not (pt_val (pe_callB call_isi (by rfl) B.isi PyProof.Rows.boot_isinstance (pa_cons (pv 0) (pa_cons (pe_bltn (v := .ty "str") (by rfl) B.str (by decide +kernel) rfl) pa_nil))))) (pss_one ps_never) pss_nil)
      (pss_cons (ps_set (i := 1) sc_parse_session.nd rfl (.inl rfl) (pe_split (pv 0) pe_str))
      (pss_cons (ps_if (pt_cmpR op_notIn_seq pe_str (pv 1) rfl) (pss_one (ps_raise rfl (takes_of rfl rfl rfl rfl) (pmk_oneerr NT hr3 (by rfl) (pa_cons (pe_callB call_len_seq (by rfl) B.len PySem.boot_len (pa_cons (pv 1) pa_nil)) pa_nil)))) pss_nil)
      (pss_cons (ps_set (i := 2) sc_parse_session.nd rfl (.inl rfl) (pe_op op_add (pe_bm PySem.F.plainAttrs_list PySem.F.slot_list_index PySem.F.type_list_index mt_index (pv 1) (pa_cons pe_str pa_nil)) pe_int))
      (pss_cons (ps_set (i := 3) sc_parse_session.nd rfl (.inl rfl) (ClX.pe_cmeth (E := E) (pe_glob (v := .ref C) rfl gC rfl) rC cP FP hr (passes_call (takes_of rfl rfl rfl rfl) fun _ _ _ _ z => z) (pa_cons (pe_join pe_str (pe_slice sl_list (pv 1) po_none (po_some (pe_op op_sub (pv 2) pe_int)))) pa_nil)))
      (pss_cons (ps_set (i := 4) sc_parse_session.nd rfl (.inl rfl) (pe_call (E := E) GRO hr5 (by rfl) gRO kRO bRO .nil (passes_call (takes_of rfl rfl rfl rfl) fun _ _ _ _ z => z) (pa_cons (pv 1) (pa_cons (pv 2) pa_nil))))
      (pss_cons (ps_expr (ClX.pe_cmeth (E := E) (pe_glob (v := .ref O) rfl gO rfl) rO cR FR hr6 (passes_call (takes_of rfl rfl rfl rfl) fun _ _ _ _ z => z) (pa_cons (pv 3) (pa_cons (pv 4) pa_nil))))
      (pss_one ps_never))))))), ?_⟩
    have G : LsG Ls := ⟨lne, l60, fun l hl => ⟨(g l hl).ne, (g l hl).len, (g l hl).wg⟩⟩
    have tl := G.tlen
    refine ⟨_, rfl, _, _, _, _, true, rfl, .ty "str", .base (.str _), kit_ty (by decide +kernel), _, rfl, iteF ?_⟩
    refine ⟨_, rfl, ⟨_, rfl⟩, _, "\n", rfl, rfl, rfl, by rw [sizeLine_eq]; omega, fun lp nlp => ?_⟩
    rw [G.lines]
    have s1 := same_upd (o := HO.lst ((Ls.map lineW).map V.str)) nlp
    have hlp : (L2.upd H lp (.lst ((Ls.map lineW).map V.str))) lp = some (.lst ((Ls.map lineW).map V.str)) := upd_same
    generalize (L2.upd H lp (.lst ((Ls.map lineW).map V.str))) = H1 at s1 hlp
    refine ⟨_, rfl, lp, _, rfl, .inl (SqL.of hlp), rfl, strs_flat _, _, rfl, ?_⟩
    rw [inV_strs]
    rcases hc with ⟨no, q⟩ | ⟨m, hm, hlt, hc⟩
    · rw [decide_eq_false fun z => no _ ((changes_in g).mp z) rfl]
      refine iteT ⟨_, rfl, lp, _, rfl, .inl (SqL.of hlp), Ls.length, by rw [List.length_map, List.length_map], by omega, fun d H2 nd hd oth => q d H2 (s1.trans (same_ext nd oth)) hd⟩
    have ml : m < Ls.length := (List.getElem?_eq_some_iff.mp hm).1
    rw [decide_eq_true ((changes_in g).mpr (List.mem_of_getElem? hm))]
    refine iteF ?_
    have at1 : ((Ls.map lineW).map V.str)[m]? = some (.str "changes") := by
      rw [List.getElem?_map, List.getElem?_map, hm]
      show some (V.str (lineW [("changes" : Str)])) = _
      rw [(line_changes (g _ (List.mem_of_getElem? hm))).mpr rfl]
    refine ⟨_, rfl, .inl ⟨rfl, _, SqL.of hlp⟩, lp, _, .str "changes", m, .str "changes", rfl, rfl, SqL.of hlp, rfl, strs_flat _, at1, by rw [eqV_str, decide_eq_true rfl], fun n z lt hz => ?_, ?_⟩
    · rw [List.getElem?_map, List.getElem?_map] at hz
      obtain ⟨y, hy, rfl⟩ := Option.map_eq_some_iff.mp hz
      obtain ⟨l, hl, rfl⟩ := Option.map_eq_some_iff.mp hy
      rw [eqV_str]
      exact decide_eq_false fun e => hlt n l lt hl ((line_changes (g l (List.mem_of_getElem? hl))).mp e)
    refine ⟨_, _, rfl, rfl, ?_⟩
    refine ⟨rfl, ⟨_, rfl⟩, _, rfl, _, rfl, _, _, rfl, rfl, (m : Nat), congrArg V.int (by omega), lp, _, rfl, SqL.of hlp, fun c nc => ?_⟩
    rw [show cutV ((Ls.map lineW).map V.str) none (some ((m : Nat) : Int)) = ((Ls.take m).map lineW).map V.str by rw [cut_to, List.map_take, List.map_take]]
    have s2 := s1.trans (same_upd (o := HO.lst (((Ls.take m).map lineW).map V.str)) nc)
    have hlp2 := (same_upd (o := HO.lst (((Ls.take m).map lineW).map V.str)) nc) _ _ hlp
    have hcc : (L2.upd H1 c (.lst (((Ls.take m).map lineW).map V.str))) c = some (.lst (((Ls.take m).map lineW).map V.str)) := upd_same
    generalize (L2.upd H1 c (.lst (((Ls.take m).map lineW).map V.str))) = H2 at s2 hlp2 hcc
    refine ⟨"\n", c, _, rfl, rfl, .inl (SqL.of hcc), ?_, ?_⟩
    · have h4 : (((Ls.take m).map lineW).map (·.length)).sum ≤ (((Ls.take m).map lineW).map (·.length)).length * 440 := sum_le_mul fun x hx => by
        obtain ⟨w, hw, rfl⟩ := List.mem_map.mp hx
        obtain ⟨l, hl, rfl⟩ := List.mem_map.mp hw
        exact (g l (List.mem_of_mem_take hl)).llen
      rw [List.length_map, List.length_map, List.length_take] at h4
      rw [len_nl, List.length_map, List.length_take]
      omega
    rcases hc with qx | ⟨p, h, os, et, nok, hc⟩
    · exact .inr (qx H2 _ s2)
    rw [et]
    refine .inl ⟨p, h, os, rfl, nok, fun H3 x tt F s3 nF N => ?_⟩
    have hlp3 := s3 _ _ hlp2
    have s23 := s2.trans s3
    have esp : Ls.map lineW = ((Ls.take (m + 1)).map lineW) ++ ((Ls.drop (m + 1)).map lineW) := by rw [← List.map_append, List.take_append_drop]
    have lpre : ((Ls.take (m + 1)).map lineW).length = m + 1 := by rw [List.length_map, List.length_take]; omega
    refine ⟨_, rfl, _, rfl, lp, (Ls.take (m + 1)).map lineW, Ls.drop (m + 1), by rw [lpre]; rfl, by rw [← esp]; exact hlp3, by omega, by rw [List.length_drop]; omega, fun l hl => g l (List.mem_of_mem_drop hl), fun hall H4 r s4 nr hO => ?_, fun j l hj hn hb d H4 s4 hd => ?_⟩
    · rcases hc with ⟨j, l, hj, hn, _⟩ | ⟨_, k, stp, q⟩
      · have := hall l (List.mem_of_getElem? hj)
        rw [hn] at this
        cases this
      · have ol : (opsW (Ls.drop (m + 1))).length ≤ 100 := Nat.le_trans (List.length_filterMap_le _ _) (by rw [List.length_drop]; omega)
        exact ⟨rfl, _, rfl, _, rfl, x, r, tt, p, h, os, F, _, k, rfl, N.same s4, hO, ol, nok, stp, fun d H5 s5 hd => q d H5 (s23.trans (s4.trans s5)) hd⟩
    · rcases hc with ⟨j', l', hj', hn', hb', q⟩ | ⟨hall, _⟩
      · have ej : j = j' := by
          rcases Nat.lt_trichotomy j j' with z | z | z
          · have hm' : l ∈ (Ls.drop (m + 1)).take j' := List.mem_of_getElem? (i := j) (by rw [List.getElem?_take_of_lt z]; exact hj)
            have := hb' l hm'
            rw [hn] at this
            cases this
          · exact z
          · have hm' : l' ∈ (Ls.drop (m + 1)).take j := List.mem_of_getElem? (i := j') (by rw [List.getElem?_take_of_lt z]; exact hj')
            have := hb l' hm'
            rw [hn'] at this
            cases this
        subst ej
        rw [lpre] at hd
        exact q d H4 (s23.trans s4) hd
      · have := hall l (List.mem_of_getElem? hj)
        rw [hn] at this
        cases this
end
abbrev s_l_parsed_line : Stmt := top 50
abbrev N_l_parsed_line : List Str := ["_law_words", "_law_numbers", "_law_counts", "_law_word"]
abbrev P_l_parsed_line : List Str := ["_law_words"]
theorem sc_l_parsed_line : FnScope N_l_parsed_line P_l_parsed_line (defScope s_l_parsed_line) := ⟨rfl, rfl, rfl, by decide +kernel, rfl, by decide +kernel, by decide +kernel⟩
/-! ### the operation of a line, as a law reads it -/
def kv4 : List (Key × V) := [(.inr "add", .int 5), (.inr "cancel", .int 1), (.inr "prolong", .int 2), (.inr "raise", .int 1)]
def kv6 : List (Key × V) := putK (putK (mergeK [] kv4) (.inr "undo") (.int 0)) (.inr "redo") (.int 0)
theorem cnt_dict (w0 : Str) : valV kv6 (.inr w0) = (cntOf w0).map fun c => V.int ((c : Nat) : Int) := by
  have e : kv6 = putK (putK (putK (putK (putK (putK [] (.inr "add") (.int 5)) (.inr "cancel") (.int 1)) (.inr "prolong") (.int 2)) (.inr "raise") (.int 1)) (.inr "undo") (.int 0)) (.inr "redo") (.int 0) := rfl
  rw [e, valV_put, valV_put, valV_put, valV_put, valV_put, valV_put, valV_nil]
  have n : ∀ {x : Str}, ¬ w0 = x → ¬ (Sum.inr w0 : Key) = Sum.inr x := fun h z => h (Sum.inr.inj z)
  unfold cntOf
  by_cases c1 : w0 = "add"
  · subst c1
    decide +kernel
  by_cases c2 : w0 = "cancel"
  · subst c2
    decide +kernel
  by_cases c3 : w0 = "prolong"
  · subst c3
    decide +kernel
  by_cases c4 : w0 = "raise"
  · subst c4
    decide +kernel
  by_cases c5 : w0 = "undo"
  · subst c5
    decide +kernel
  by_cases c6 : w0 = "redo"
  · subst c6
    decide +kernel
  rw [if_neg (n c6), if_neg (n c5), if_neg (n c4), if_neg (n c3), if_neg (n c2), if_neg (n c1), if_neg c1, if_neg c2, if_neg c3, if_neg c4, if_neg c5, if_neg c6]
  rfl
theorem opW_bad {w0 : Str} {ws : List Str} (h : (ws.map valW).all Option.isSome = false) : opW (w0 :: ws) = none := by
  cases e : cntOf w0 with
  | none => exact opW_no e
  | some c =>
    rw [opW_row e]
    have : rowOf w0 c (w0 :: ws) (ws.map valW) = none := by
      show (if w0 = w0 ∧ (ws.map valW).length = c ∧ (ws.map valW).all Option.isSome = true then some ((ws.map valW).filterMap id) else none) = none
      exact if_neg fun z => by rw [h] at z; exact absurd z.2.2 Bool.false_ne_true
    rw [this]
    rfl
theorem opW_len {w0 : Str} {ws : List Str} {c : Nat} (e : cntOf w0 = some c) (h : ws.length ≠ c) : opW (w0 :: ws) = none := by
  rw [opW_row e]
  have : rowOf w0 c (w0 :: ws) (ws.map valW) = none := by
    show (if w0 = w0 ∧ (ws.map valW).length = c ∧ (ws.map valW).all Option.isSome = true then some ((ws.map valW).filterMap id) else none) = none
    exact if_neg fun z => h (by rw [← z.2.1, List.length_map])
  rw [this]
  rfl
theorem opW_ok {w0 : Str} {ws : List Str} {c : Nat} (e : cntOf w0 = some c) (h : ws.length = c) (hs : (ws.map valW).all Option.isSome = true) : opW (w0 :: ws) = some (mkOp w0 (ws.filterMap valW)) := by
  rw [opW_row e]
  have : rowOf w0 c (w0 :: ws) (ws.map valW) = some (ws.filterMap valW) := by
    show (if w0 = w0 ∧ (ws.map valW).length = c ∧ (ws.map valW).all Option.isSome = true then some ((ws.map valW).filterMap id) else none) = _
    rw [if_pos ⟨rfl, by rw [List.length_map, h], hs⟩, List.filterMap_map]
    rfl
  rw [this]
  rfl
def spLawLine (WS : List Str) : Sp := fun vs H Q _ => ∃ (a : Addr) (l : List Str), vs = [.ref a] ∧ H a = some (.lst (l.map V.str)) ∧ LnG WS l ∧ l.length ≤ 9 ∧ ∀ H' v, Same H H' → OptOpn H' v (opW l) → Q v H'
section
variable {P : Program} {w : World} {K : PySem.W.Frag} {mg : Str → Option Value} {base : Heap}
set_option maxHeartbeats 0 in
theorem ok_lawline {f : Addr} {fd : FuncData} {WS : List Str} (F : Fun K "_law_parsed_line" "_law_parsed_line" s_l_parsed_line f fd) (B : Blt mg) (DN : Df P w K mg base "_law_is_number" 2 P_l_is_number spLawNum) : FnOk P w K mg base CX0 3 f fd P_l_parsed_line (spLawLine WS) := by
  obtain ⟨fN, fdN, gN, kN, bN, GN⟩ := DN
  refine F.ok sc_l_parsed_line (fun vs H Q E h => ?_) (fun cdv A outer s H vs Q E hr h => ?_)
  · obtain ⟨a, l, rfl, _⟩ := h
    rfl
  · obtain ⟨a, l, rfl, ha, g, l9, q⟩ := h
    have hu : (A.deeper (PyProof.Rows.envOfC "_law_parsed_line" (defScope s_l_parsed_line) s.heap.objs.size f cdv)).units + 64 < cLine := hr.units
    have hu1 : (A.deeper (PyProof.Rows.envOfC "_law_parsed_line" (defScope s_l_parsed_line) s.heap.objs.size f cdv)).units + 1 < cLine := by omega
    refine ⟨_, pss_cons (ps_if (pt_cmpR (op_neD hu) (pe_lc (own := [("_law_word", 3)]) (g := gName 3) (tt := tNot (tB (tCall spLawNum [] E0 (tCons (tVar 3) tNil)))) (te := tVar 3) (by rfl) sc_l_parsed_line.nd (pi_list (pe_slice sl_list (pv 0) (po_some pe_int) po_none))
          (blkOk_by (N := N_l_parsed_line) (sc := defScope s_l_parsed_line) (by decide +kernel)) (fun _ _ _ _ _ => pg_name (i := 3) sc_l_parsed_line.nd rfl (.inl rfl)) (fun _ _ _ _ _ => pts_one (pt_not (pt_val (pe_call GN hr (by rfl) gN kN bN .nil pass0 (pa_cons (pv 3) pa_nil))))) (fun _ _ _ _ _ => pv 3)) (pe_lst pa_nil) (nomark _)) (pss_one (ps_ret pe_non)) pss_nil)
      (pss_cons (ps_par (by rfl) sc_l_parsed_line.nd (i := 1) (j := 2) rfl rfl (by decide) rfl rfl (pa_cons (pe_lc (own := [("_law_word", 3)]) (g := gName 3) (tt := tYes) (te := tCB (fun xs H Q => ∃ a n, xs = [V.str a] ∧ PySem.intText? a = some n ∧ a.length ≤ 640 ∧ Q (.int n) H) (tCons (tVar 3) tNil)) (by rfl) sc_l_parsed_line.nd (pi_list (pe_slice sl_list (pv 0) (po_some pe_int) po_none))
            (blkOk_by (N := N_l_parsed_line) (sc := defScope s_l_parsed_line) (by decide +kernel)) (fun _ _ _ _ _ => pg_name (i := 3) sc_l_parsed_line.nd rfl (.inl rfl)) (fun _ _ _ _ _ => pts_nil) (fun _ _ _ _ _ => pe_callTy call_int_str (by rfl) B.int (by decide +kernel) (pa_cons (pv 3) pa_nil)))
          (pa_cons (pe_disp (pps_cons pe_str pe_int (pps_cons pe_str pe_int (pps_cons pe_str pe_int (pps_cons pe_str pe_int pps_nil)))) rfl rfl (by simp) (by decide)) pa_nil)) (by rfl))
      (pss_cons (ps_asg (pe_tup (pa_cons pe_int (pa_cons pe_int pa_nil))) (pg_tup (by rfl) (pgs_cons (pg_sub (pv 2) pe_str (set_dict hu1)) (pgs_cons (pg_sub (pv 2) pe_str (set_dict hu1)) pgs_nil))))
      (pss_cons (ps_if (pt_cmpR op_ne (pe_dget2 hu1 (pv 2) (pe_ix ix_list (pv 0) pe_int (fun _ _ => rfl)) pe_int ⟨rfl, rfl, rfl, rfl⟩) (pe_callB call_len_seq (by rfl) B.len PySem.boot_len (pa_cons (pv 1) pa_nil)) (nomark _)) (pss_one (ps_ret pe_non)) pss_nil)
      (pss_one (ps_ret (pe_ifExp (pt_cmpR op_eq (pe_ix ix_list (pv 0) pe_int (fun _ _ => rfl)) pe_str (nomark _)) (pe_tup (pa_cons pe_str (pa_cons (pe_callTy call_tuple_of (by rfl) B.tuple (by decide +kernel) (pa_cons (pv 1) pa_nil)) pa_nil)))
        (pe_callTy call_tuple_of (by rfl) B.tuple (by decide +kernel) (pa_cons (pe_op op_cat (pe_lst (pa_cons (pe_ix ix_list (pv 0) pe_int (fun _ _ => rfl)) pa_nil)) (pv 1)) pa_nil)))))))), ?_⟩
    cases l with
    | nil => exact absurd rfl g.ne
    | cons w0 ws =>
    rw [List.length_cons] at l9
    have lw : ∀ z ∈ ws, WG z := fun z hz => g.wg z (List.mem_cons_of_mem _ hz)
    -- its numbers are numbers
    refine ⟨_, rfl, 1, rfl, a, _, rfl, SqL.of ha, fun cl ncl => ?_⟩
    rw [show cutV ((w0 :: ws).map V.str) (some (1 : Int)) none = ((w0 :: ws).map V.str).drop 1 from cut_from (n := 1), show ((w0 :: ws).map V.str).drop 1 = ws.map V.str from rfl]
    have s2 := same_upd (o := HO.lst (ws.map V.str)) ncl
    have hcl := (upd_same : (L2.upd H cl (.lst (ws.map V.str))) cl = _)
    generalize (L2.upd H cl (.lst (ws.map V.str))) = H2 at s2 hcl
    refine ⟨cl, rfl, ⟨_, SqL.of hcl⟩, fun D nD => ?_⟩
    refine lc_list (K := K) (a := cl) (xs := ws.map V.str) (fun j H' => Same H2 H' ∧ H' D = some (.lst (((ws.take j).filter fun z => !lawNum z).map V.str))) ⟨same_upd nD, upd_same⟩ (fun j H' _ ⟨s', _⟩ => SqL.of (s' _ _ hcl)) ?_ ?_
    · rintro j v H' hj ⟨s', hD⟩
      rw [List.getElem?_map] at hj
      obtain ⟨z, hz, rfl⟩ := Option.map_eq_some_iff.mp hj
      have gz := lw z (List.mem_of_getElem? hz)
      refine ⟨rfl, _, rfl, z, rfl, gz.ok, Nat.le_trans gz.len (by decide), fun H3 s3 => ⟨_, rfl, ?_⟩⟩
      have hD3 := s3 _ _ hD
      rw [take_filter hz]
      dsimp only
      by_cases c : (!lawNum z) = true
      · rw [if_pos c, if_pos c]
        refine ⟨_, rfl, _, hD3, ?_, fun b o e => ?_, ?_⟩
        · rw [List.length_map]
          exact small1000 (Nat.le_trans (List.length_filter_le _ _) (by rw [List.length_take]; omega))
        · rw [upd_ne (ne_of_none e nD)]
          exact s3 _ _ (s' _ _ e)
        · rw [upd_same, List.map_append]
          rfl
      · rw [if_neg c, if_neg c, List.append_nil]
        exact ⟨s'.trans s3, hD3⟩
    rintro H' ⟨s', hD⟩
    rw [List.length_map, List.take_of_length_le (Nat.le_refl _)] at hD
    refine ⟨(by show 0 ≤ sizeLine; decide), fun z nz => ?_⟩
    have s3 := same_upd (o := HO.lst []) nz
    have s13 := s2.trans (s'.trans s3)
    refine ⟨_, _, strs_dp (s3 _ _ hD), strs_dp (ws := []) upd_same, strsD_shaped fun y hy => (lw y (List.mem_filter.mp hy).1).ok, strsD_shaped (fun _ h => by cases h), _, rfl, ?_⟩
    rw [show PyData.eqv (strsD (ws.filter fun z => !lawNum z)) (strsD []) = (ws.filter fun z => !lawNum z).isEmpty from by
      show PyData.eqv (.list _) (.list []) = _
      rw [listD_nil]
      cases (ws.filter fun z => !lawNum z) <;> simp]
    rw [lawNum_all lw]
    generalize (L2.upd H' z (.lst [])) = H4 at s13
    cases hall : (ws.map valW).all Option.isSome with
    | false => exact iteT (q H4 .non s13 (by rw [opW_bad hall]; rfl))
    | true =>
    refine iteF ?_
    have ha4 := s13 _ _ ha
    -- the numbers
    refine ⟨_, rfl, 1, rfl, a, _, rfl, SqL.of ha4, fun cl ncl => ?_⟩
    rw [show cutV ((w0 :: ws).map V.str) (some (1 : Int)) none = ((w0 :: ws).map V.str).drop 1 from cut_from (n := 1), show ((w0 :: ws).map V.str).drop 1 = ws.map V.str from rfl]
    have s5 := same_upd (o := HO.lst (ws.map V.str)) ncl
    have hcl := (upd_same : (L2.upd H4 cl (.lst (ws.map V.str))) cl = _)
    generalize (L2.upd H4 cl (.lst (ws.map V.str))) = H5 at s5 hcl
    refine ⟨cl, rfl, ⟨_, SqL.of hcl⟩, fun N nN => ?_⟩
    refine lc_list (K := K) (a := cl) (xs := ws.map V.str) (fun j H' => Same H5 H' ∧ H' N = some (.lst (nints ((ws.take j).filterMap valW)))) ⟨same_upd nN, upd_same⟩ (fun j H' _ ⟨s', _⟩ => SqL.of (s' _ _ hcl)) ?_ ?_
    · rintro j v H7 hj ⟨s7, hM⟩
      rw [List.getElem?_map] at hj
      obtain ⟨z, hz, rfl⟩ := Option.map_eq_some_iff.mp hj
      have hzm := List.mem_of_getElem? hz
      have gz := lw z hzm
      have hzs := List.all_eq_true.mp hall _ (List.mem_map_of_mem hzm)
      cases ez : valW z with
      | none => rw [ez] at hzs; cases hzs
      | some n =>
        refine ⟨rfl, _, rfl, z, (n : Int), rfl, gz.wk.int n ez, gz.wk.len, _, hM, ?_, fun b o e => ?_, ?_⟩
        · unfold nints
          rw [List.length_map]
          exact small1000 (Nat.le_trans (List.length_filterMap_le _ _) (by rw [List.length_take]; omega))
        · rw [upd_ne (ne_of_none e nN)]
          exact s7 _ _ e
        · rw [upd_same, List.take_add_one, hz, List.filterMap_append]
          unfold nints
          rw [List.map_append, show (some z).toList.filterMap valW = [n] by simp [ez]]
          rfl
    rintro H6 ⟨s6, hN⟩
    rw [List.length_map, List.take_of_length_le (Nat.le_refl _)] at hN
    have nl : (nints (ws.filterMap valW)).length = ws.length := by
      unfold nints
      rw [List.length_map]
      exact fm_len fun z hz => List.all_eq_true.mp hall _ (List.mem_map_of_mem hz)
    have s16 := s13.trans (s5.trans s6)
    clear s5 s6 s13 hcl nN ncl
    -- how many belong to a word
    refine fun p np => ⟨upd_same, kv4, rfl, by decide, ⟨_, _, rfl, ?_⟩⟩
    rw [upd_upd]
    have s7 := same_upd (o := HO.dK (mergeK [] kv4)) np
    have hp := (upd_same : (L2.upd H6 p (.dK (mergeK [] kv4))) p = _)
    have pN : p ≠ N := fun z => by rw [z, hN] at np; cases np
    have pa : p ≠ a := fun z => by rw [z, s16 _ _ ha] at np; cases np
    have pf : H p = none := s16.free np
    have hN7 := s7 _ _ hN
    have s17 := s16.trans s7
    generalize (L2.upd H6 p (.dK (mergeK [] kv4))) = H7 at s7 hp hN7 s17
    refine ⟨(by show 2 ≤ sizeLine; decide), fun t nt => ?_⟩
    have s8 := same_upd (o := HO.tup [.int 0, .int 0]) nt
    have ht := (upd_same : (L2.upd H7 t (.tup [.int 0, .int 0])) t = _)
    generalize (L2.upd H7 t (.tup [.int 0, .int 0])) = H8 at s8 ht
    have hp8 := s8 _ _ hp
    refine ⟨t, _, rfl, SqT.of ht, rfl, _, _, rfl, _, rfl, p, _, rfl, DPut.k (k := .inr "undo") hp8 (by show 4 < sizeLine; decide), _, _, rfl, _, rfl, p, _, rfl, DPut.k (k := .inr "redo") upd_same (by show 5 < sizeLine; decide), rfl, ?_⟩
    rw [upd_upd]
    have b9 : But p H8 (L2.upd H8 p (.dK (putK (putK (mergeK [] kv4) (.inr "undo") (.int 0)) (.inr "redo") (.int 0)))) := .upd
    have hp9 : (L2.upd H8 p (.dK (putK (putK (mergeK [] kv4) (.inr "undo") (.int 0)) (.inr "redo") (.int 0)))) p = some (.dK kv6) := upd_same
    have s9 : Same H (L2.upd H8 p (.dK (putK (putK (mergeK [] kv4) (.inr "undo") (.int 0)) (.inr "redo") (.int 0)))) := fun b o e => b9 b o (ne_of_none e pf) ((s17.trans s8) b o e)
    have hN9 := b9 _ _ pN.symm (s8 _ _ hN7)
    have ha9 := s9 _ _ ha
    generalize (L2.upd H8 p (.dK (putK (putK (mergeK [] kv4) (.inr "undo") (.int 0)) (.inr "redo") (.int 0)))) = H9 at s9 hp9 hN9 ha9
    -- as many as belong to the word
    refine ⟨_, rfl, p, rfl, .inl ⟨_, .inl hp9⟩, _, rfl, a, _, 0, .str w0, rfl, rfl, SqL.of ha9, atI_nat (j := 0) rfl, _, DGet.k (k := .inr w0) hp9, ?_⟩
    rw [cnt_dict]
    refine ⟨_, rfl, N, _, rfl, .inl (SqL.of hN9), ?_⟩
    rw [nl]
    cases ec : cntOf w0 with
    | none =>
      refine ⟨rfl, true, congrArg V.bl ?_, iteT (q H9 .non s9 (by rw [opW_no ec]; rfl))⟩
      show (!decide (V.int (9 : Int) = V.int ((ws.length : Nat) : Int))) = true
      rw [decide_eq_false fun z => by have := V.int.inj z; omega]
      rfl
    | some c =>
      by_cases cl : ws.length = c
      · refine ⟨rfl, false, congrArg V.bl ?_, iteF ?_⟩
        · show (!decide (V.int ((c : Nat) : Int) = V.int ((ws.length : Nat) : Int))) = false
          rw [cl, decide_eq_true rfl]
          rfl
        have eo := opW_ok ec cl hall
        have nlen : (ws.filterMap valW).length = c := by rw [← cl]; exact fm_len fun z hz => List.all_eq_true.mp hall _ (List.mem_map_of_mem hz)
        by_cases ca : w0 = "add"
        · subst ca
          refine ⟨_, rfl, a, _, 0, .str "add", rfl, rfl, SqL.of ha9, atI_nat (j := 0) rfl, rfl, _, rfl, str_eqT ⟨_, rfl, N, _, rfl, .inl ⟨SqL.of hN9, fun u nu => ⟨(by show 2 ≤ sizeLine; decide), fun b nb => ?_⟩⟩⟩⟩
          have s10 := same_upd (o := HO.tup (nints (ws.filterMap valW))) nu
          have hu' := (upd_same : (L2.upd H9 u (.tup (nints (ws.filterMap valW)))) u = _)
          generalize (L2.upd H9 u (.tup (nints (ws.filterMap valW)))) = H10 at s10 hu' nb
          have s11 := same_upd (o := HO.tup [.str "add", .ref u]) nb
          refine q _ _ (s9.trans (s10.trans s11)) ?_
          rw [eo, mkOp_add]
          have c5 : c = 5 := by
            rcases cntOf_cases ec with z | z | z | z | z | z
            · exact z.2
            · exact absurd z.1 (by decide +kernel)
            · exact absurd z.1 (by decide +kernel)
            · exact absurd z.1 (by decide +kernel)
            · exact absurd z.1 (by decide +kernel)
            · exact absurd z.1 (by decide +kernel)
          rw [odR_row (nlen.trans c5)] at hu'
          exact ⟨b, rfl, .ref u, upd_same, u, rfl, s11 _ _ hu'⟩
        · refine ⟨_, rfl, a, _, 0, .str w0, rfl, rfl, SqL.of ha9, atI_nat (j := 0) rfl, rfl, _, rfl, str_eqF ca ⟨_, rfl, a, _, 0, .str w0, rfl, rfl, SqL.of ha9, atI_nat (j := 0) rfl, (by show 1 ≤ sizeLine; decide), fun c1 nc => ⟨_, rfl, ?_⟩⟩⟩
          have s10 := same_upd (o := HO.lst [.str w0]) nc
          have hc1 := (upd_same : (L2.upd H9 c1 (.lst [.str w0])) c1 = _)
          generalize (L2.upd H9 c1 (.lst [.str w0])) = H10 at s10 hc1
          refine catL_case hc1 (s10 _ _ hN9) (Nat.le_of_lt (small1000 (by rw [nl]; show 1 + ws.length ≤ 1000; omega))) fun e H11 s11 n11 he => ⟨e, _, rfl, .inl ⟨SqL.of he, fun b nb => ?_⟩⟩
          have s12 := same_upd (o := HO.tup ([.str w0] ++ nints (ws.filterMap valW))) nb
          refine q _ _ (s9.trans (s10.trans (s11.trans s12))) ?_
          rw [eo]
          exact ⟨b, rfl, mk_at ec nlen ca upd_same⟩
      · refine ⟨rfl, true, congrArg V.bl ?_, iteT (q H9 .non s9 (by rw [opW_len ec cl]; rfl))⟩
        show (!decide (V.int ((c : Nat) : Int) = V.int ((ws.length : Nat) : Int))) = true
        rw [decide_eq_false fun z => cl (by have := V.int.inj z; omega)]
        rfl
end
/-! ### k27: the words that the law writes -/
def WL27 : List Str := ["net", "4", "3", "order", "0", "1", "2", "changes", "add", "9", "cancel", "prolong", "raise", "undo", "redo", "", "07", "5", "1000", "x"]
theorem wl27_all : WL27.all wOk = true := by decide +kernel
theorem wl27 {w : Str} (h : w ∈ WL27) : WG w := wg_of (List.all_eq_true.mp wl27_all w h)
theorem wl27_30 : ∀ w ∈ WL27, ∀ n, valW w = some n → n ≤ 30 := by
  have h : WL27.all (fun w => match valW w with | some n => decide (n ≤ 30) | none => true) = true := by decide +kernel
  intro w hw n e
  have h2 := List.all_eq_true.mp h w hw
  rw [e] at h2
  exact of_decide_eq_true h2
def WN27 : List Str := ["net", "4", "3", "order", "0", "1", "2", "changes", "9", "", "07", "5", "1000", "x"]
theorem wn27 : ∀ z ∈ WL27, cntOf z = none → z ∈ WN27 := by decide +kernel
theorem dno27 {K : PySem.W.Frag} {mg : Str → Option Value} (h1 : DctNo K mg "NUMBERS" "net") (h2 : DctNo K mg "NUMBERS" "4") (h3 : DctNo K mg "NUMBERS" "3") (h4 : DctNo K mg "NUMBERS" "order") (h5 : DctNo K mg "NUMBERS" "0") (h6 : DctNo K mg "NUMBERS" "1") (h7 : DctNo K mg "NUMBERS" "2") (h8 : DctNo K mg "NUMBERS" "changes") (h9 : DctNo K mg "NUMBERS" "9") (h10 : DctNo K mg "NUMBERS" "") (h11 : DctNo K mg "NUMBERS" "07") (h12 : DctNo K mg "NUMBERS" "5") (h13 : DctNo K mg "NUMBERS" "1000") (h14 : DctNo K mg "NUMBERS" "x") : ∀ z ∈ WL27, cntOf z = none → DctNo K mg "NUMBERS" z := fun z hz hc => by
  have h := wn27 z hz hc
  unfold WN27 at h
  simp only [List.mem_cons, List.not_mem_nil, or_false] at h
  rcases h with rfl | rfl | rfl | rfl | rfl | rfl | rfl | rfl | rfl | rfl | rfl | rfl | rfl | rfl <;> assumption
/-! ### branches by propositions -/
theorem if_and {c1 c2 : TT} {t u : TS} {D : Ends} {σ : L2.St} {H : Hp} (P1 P2 : Prop) [Decidable P1] [Decidable P2] (h1 : ∀ k : Bool → Hp → Prop, k (decide P1) H → c1 σ H k) (h2 : ∀ k : Bool → Hp → Prop, k (decide P2) H → c2 σ H k) (ht : P1 → P2 → t D σ H) (hu : ¬ (P1 ∧ P2) → u D σ H) : tIfS (tAnd c1 c2) t u D σ H := by
  refine h1 _ ?_
  by_cases p1 : P1
  · rw [decide_eq_true p1]
    refine h2 _ ?_
    by_cases p2 : P2
    · rw [decide_eq_true p2]
      exact ht p1 p2
    · rw [decide_eq_false p2]
      exact hu fun z => p2 z.2
  · rw [decide_eq_false p1]
    exact hu fun z => p1 z.1
theorem if_dec {c : TT} {t u : TS} {D : Ends} {σ : L2.St} {H : Hp} (P1 : Prop) [Decidable P1] (h1 : ∀ k : Bool → Hp → Prop, k (decide P1) H → c σ H k) (ht : P1 → t D σ H) (hu : ¬ P1 → u D σ H) : tIfS c t u D σ H := by
  refine h1 _ ?_
  by_cases p1 : P1
  · rw [decide_eq_true p1]
    exact ht p1
  · rw [decide_eq_false p1]
    exact hu p1
theorem int_dec {m n : Nat} : decide (V.int (m : Nat) = V.int (n : Nat)) = decide (m = n) := by
  by_cases c : m = n
  · rw [decide_eq_true c, decide_eq_true (by rw [c])]
  · rw [decide_eq_false c, decide_eq_false fun z => c (by have := V.int.inj z; omega)]
theorem eq_nat {σ : L2.St} {H : Hp} {k : Bool → Hp → Prop} {i m n : Nat} (h : σ[i]? = some (some (.int (m : Nat)))) (q : k (decide (m = n)) H) : tTest (tOp rEq (tVar i) (tC (.int (n : Nat)))) σ H k := by
  refine ⟨_, h, rfl, _, rfl, ?_⟩
  rw [int_dec]
  exact q
theorem cut_dropLast {l : List Str} (h : l ≠ []) : cutV (l.map V.str) none (some (-1)) = l.dropLast.map V.str := by
  have e : l.map V.str = l.dropLast.map V.str ++ [V.str (l.getLast h)] := by
    rw [show [V.str (l.getLast h)] = [l.getLast h].map V.str from rfl, ← List.map_append, List.dropLast_concat_getLast]
  rw [e]
  generalize l.dropLast.map V.str = xs
  generalize V.str (l.getLast h) = v
  unfold cutV
  rw [HT.sIx_none, show HT.sIx (xs ++ [v]).length (xs ++ [v]).length (some (-1)) = xs.length by
    rw [List.length_append, List.length_singleton]
    unfold HT.sIx
    simp only
    rw [if_pos (by decide)]
    omega]
  simp
/-! ### k27: what stands while the lines are made and changed -/
def opts27 : List (List Str) := [["add", "1", "2", "0", "4", "9"], ["cancel", "0"], ["prolong", "0", "3"], ["raise", "0"], ["undo"], ["redo"]]
def words27 : List Str := ["", "07", "5", "1000", "x", "changes", "undo", "order", "0", "1"]
theorem words27_WL : ∀ w ∈ words27, w ∈ WL27 := by decide +kernel
theorem opts27_ok : ∀ l ∈ opts27, l.length ≤ 7 ∧ ∀ w ∈ l, w ∈ WL27 := by decide +kernel
def last27 : List Str := ["add", "1", "2", "0", "4", "9", "1"]
theorem last27_ok : last27.length ≤ 7 ∧ ∀ w ∈ last27, w ∈ WL27 := by decide +kernel
/-- lines that may be empty -/
structure LsC (WS : List Str) (n m : Nat) (Ls : List (List Str)) : Prop where
  ne : Ls ≠ []
  len : Ls.length ≤ n
  ln : ∀ l ∈ Ls, l.length ≤ m ∧ ∀ w ∈ l, w ∈ WS
section
variable {WS : List Str} {n m : Nat} {Ls : List (List Str)}
theorem LsC.mono {n' m' : Nat} (h : LsC WS n m Ls) (h1 : n ≤ n') (h2 : m ≤ m') : LsC WS n' m' Ls := ⟨h.ne, Nat.le_trans h.len h1, fun l hl => ⟨Nat.le_trans (h.ln l hl).1 h2, (h.ln l hl).2⟩⟩
theorem LsC.push {l : List Str} (h : LsC WS n m Ls) (hm : l.length ≤ m) (hw : ∀ w ∈ l, w ∈ WS) : LsC WS (n + 1) m (Ls ++ [l]) := by
  refine ⟨by simp, ?_, fun l' hl => ?_⟩
  · have := h.len
    rw [List.length_append, List.length_singleton]
    omega
  · rcases List.mem_append.mp hl with z | z
    · exact h.ln l' z
    · obtain rfl := List.mem_singleton.mp z
      exact ⟨hm, hw⟩
theorem LsC.put {k j : Nat} {l : List Str} (h : LsC WS n m Ls) (hk : k < Ls.length) (hj : j = k ∨ j = k + 1) (hm : l.length ≤ m) (hw : ∀ w ∈ l, w ∈ WS) : LsC WS (n + 1) m (Ls.take k ++ [l] ++ Ls.drop j) := by
  refine ⟨by simp, ?_, fun l' hl => ?_⟩
  · have := h.len
    rw [List.length_append, List.length_append, List.length_take, List.length_drop, List.length_singleton]
    rcases hj with rfl | rfl <;> omega
  · rcases List.mem_append.mp hl with z | z
    · rcases List.mem_append.mp z with z | z
      · exact h.ln l' (List.mem_of_mem_take z)
      · obtain rfl := List.mem_singleton.mp z
        exact ⟨hm, hw⟩
    · exact h.ln l' (List.mem_of_mem_drop z)
end
/-- an empty line is read back as one empty word -/
def norm (l : List Str) : List Str := if l = [] then [""] else l
theorem norm_line (l : List Str) : lineW (norm l) = lineW l := by
  unfold norm
  by_cases c : l = []
  · rw [if_pos c, c]
    decide +kernel
  · rw [if_neg c]
theorem norm_lines (Ls : List (List Str)) : (Ls.map norm).map lineW = Ls.map lineW := by
  rw [List.map_map]
  exact List.map_congr_left fun l _ => norm_line l
theorem LsC.norm {n : Nat} {Ls : List (List Str)} (h : LsC WL27 n 9 Ls) : ∀ l ∈ Ls.map norm, LnG WL27 l ∧ l.length ≤ 9 := fun l hl => by
  obtain ⟨l', hl', rfl⟩ := List.mem_map.mp hl
  obtain ⟨h1, h2⟩ := h.ln l' hl'
  unfold Cp.norm
  by_cases c : l' = []
  · rw [if_pos c]
    exact ⟨⟨by simp, by show 1 ≤ 40; decide, fun z hz => by rw [List.mem_singleton.mp hz]; exact wl27 (by decide +kernel), fun z hz => by rw [List.mem_singleton.mp hz]; decide +kernel⟩, by show 1 ≤ 9; decide⟩
  · rw [if_neg c]
    exact ⟨⟨c, by omega, fun z hz => wl27 (h2 z hz), h2⟩, h1⟩
/-- the list of lines while lines are appended to it -/
def LnA (d a : Addr) (H : Hp) (v : V) (l : List Str) : Prop := ∃ u, v = .ref u ∧ u ≠ d ∧ u ≠ a ∧ H u = some (.lst (l.map V.str))
structure J27A (d Pt : Addr) (q : Str) (a : Addr) (Ls : List (List Str)) (H : Hp) : Prop where
  D : DAt H d
  T : LamX.Tabs [(Pt, q)] H
  nd : a ≠ d
  L : ∃ us, H a = some (.lst us) ∧ Paired (LnA d a H) us Ls
section
open LamX (Tabs ExtN)
variable {d wl Pt a b : Addr} {q : Str} {Ls Ms : List (List Str)} {H H' : Hp}
theorem LnA.same {v : V} {l : List Str} (h : LnA d a H v l) (s : Same H H') : LnA d a H' v l := by
  obtain ⟨u, e, n1, n2, hu⟩ := h
  exact ⟨u, e, n1, n2, s _ _ hu⟩
theorem LnA.but {v : V} {l : List Str} (h : LnA d a H v l) (b : But d H H') : LnA d a H' v l := by
  obtain ⟨u, e, n1, n2, hu⟩ := h
  exact ⟨u, e, n1, n2, b _ _ n1 hu⟩
theorem LnA.butA {v : V} {l : List Str} (h : LnA d a H v l) (b : But a H H') : LnA d a H' v l := by
  obtain ⟨u, e, n1, n2, hu⟩ := h
  exact ⟨u, e, n1, n2, b _ _ n2 hu⟩
theorem J27A.same (J : J27A d Pt q a Ls H) (s : Same H H') : J27A d Pt q a Ls H' := by
  obtain ⟨us, h1, h2⟩ := J.L
  exact ⟨J.D.but s, tabs_same J.T s, J.nd, us, s _ _ h1, Paired.mapP h2 fun _ _ z => z.same s⟩
theorem J27A.butD (J : J27A d Pt q a Ls H) (b : But d H H') (D' : DAt H' d) : J27A d Pt q a Ls H' := by
  obtain ⟨us, h1, h2⟩ := J.L
  exact ⟨D', tabs_butD J.T b J.D, J.nd, us, b _ _ J.nd h1, Paired.mapP h2 fun _ _ z => z.but b⟩
theorem J27A.push {us : List V} {v : V} {l : List Str} (J : J27A d Pt q a Ls H) (ha : H a = some (.lst us)) (hv : LnA d a H v l) : J27A d Pt q a (Ls ++ [l]) (L2.upd H a (.lst (us ++ [v]))) := by
  obtain ⟨us', h1, h2⟩ := J.L
  obtain rfl : us' = us := by
    have := h1.symm.trans ha
    cases this
    rfl
  have b : But a H (L2.upd H a (.lst (us' ++ [v]))) := .upd
  obtain ⟨x1, x2, x3, x4, x5, hd⟩ := J.D
  exact ⟨⟨x1, x2, x3, x4, x5, b _ _ J.nd.symm hd⟩, tabs_butL J.T b ha, J.nd, _, upd_same, Paired.snoc (Paired.mapP h2 fun _ _ z => z.butA b) (hv.butA b)⟩
structure J27 (d wl Pt : Addr) (q : Str) (a : Addr) (Ls : List (List Str)) (H : Hp) : Prop where
  D : DAt H d
  T : Tabs [(Pt, q)] H
  nw : wl ≠ d
  W : H wl = some (.lst (words27.map V.str))
  L : LsD d H a Ls
theorem J27A.toL (J : J27A d Pt q a Ls H) : LsD d H a Ls := by
  obtain ⟨us, h1, h2⟩ := J.L
  exact ⟨J.nd, us, h1, Paired.mapP h2 fun _ _ ⟨u, e, n, _, hu⟩ => ⟨u, e, n, hu⟩⟩
theorem J27.same (J : J27 d wl Pt q a Ls H) (s : Same H H') : J27 d wl Pt q a Ls H' := ⟨J.D.but s, tabs_same J.T s, J.nw, s _ _ J.W, J.L.same s⟩
theorem J27.butD (J : J27 d wl Pt q a Ls H) (b : But d H H') (D' : DAt H' d) : J27 d wl Pt q a Ls H' := ⟨D', tabs_butD J.T b J.D, J.nw, b _ _ J.nw J.W, J.L.but b⟩
theorem J27.put (J : J27 d wl Pt q a Ls H) (L' : LsD d H b Ms) : J27 d wl Pt q b Ms H := ⟨J.D, J.T, J.nw, J.W, L'⟩
end
def first27 : List (List Str) := [["net", "4", "3"], ["order", "0", "1", "0", "2", "1"], ["changes"]]
theorem first27_ok : LsC WL27 3 7 first27 := ⟨by decide, by decide, by decide +kernel⟩
/-! ### k18: lines whose numbers are those of a net -/
theorem vals_back {ws : List Str} (g : ∀ z ∈ ws, WG z) (h : ∀ z ∈ ws, (valW z).isSome = true) (l : ∀ n ∈ ws.filterMap valW, n ≤ 30) : (ws.filterMap valW).map nT = ws ∧ (ws.filterMap valW).length = ws.length := by
  induction ws with
  | nil => exact ⟨rfl, rfl⟩
  | cons w r ih =>
    have h1 := h w (List.mem_cons_self ..)
    cases e : valW w with
    | none =>
      rw [e] at h1
      cases h1
    | some n =>
      rw [List.filterMap_cons_some e] at l ⊢
      obtain ⟨i1, i2⟩ := ih (fun z hz => g z (List.mem_cons_of_mem _ hz)) (fun z hz => h z (List.mem_cons_of_mem _ hz)) fun m hm => l m (List.mem_cons_of_mem _ hm)
      rw [List.map_cons, i1, (g w (List.mem_cons_self ..)).nT n e (l n (List.mem_cons_self ..)), List.length_cons, List.length_cons, i2]
      exact ⟨rfl, rfl⟩
theorem vals_len {ws : List Str} (h : ∀ z ∈ ws, (valW z).isSome = true) : (ws.filterMap valW).length = ws.length := by
  induction ws with
  | nil => rfl
  | cons w r ih =>
    have h1 := h w (List.mem_cons_self ..)
    cases e : valW w with
    | none =>
      rw [e] at h1
      cases h1
    | some n =>
      rw [List.filterMap_cons_some e, List.length_cons, List.length_cons, ih fun z hz => h z (List.mem_cons_of_mem _ hz)]
/-- lines without a fault: their numbers -/
theorem flt_none {l0 : List Str} {Lr : List (List Str)} (h : FltAt (l0 :: Lr) none) : (∃ w1 w2 p q, l0 = [("net" : Str), w1, w2] ∧ valW w1 = some p ∧ valW w2 = some q ∧ rowN l0 = [p, q]) ∧ ∀ l ∈ Lr, ∃ ws, l = ("order" : Str) :: ws ∧ ws.length = 5 ∧ (∀ z ∈ ws, (valW z).isSome = true) ∧ (rowN l).length = 5 := by
  refine ⟨?_, fun l hl => ?_⟩
  · obtain ⟨r, hr⟩ := h 0 l0 rfl
    obtain ⟨w, ws, rfl, rfl, h3, h4, rfl⟩ := rowW_some hr
    match ws, h3, h4 with
    | [w1, w2], _, h4 =>
      have a1 := h4 w1 (List.mem_cons_self ..)
      have a2 := h4 w2 (List.mem_cons_of_mem _ (List.mem_cons_self ..))
      cases e1 : valW w1 with
      | none => rw [e1] at a1; cases a1
      | some p =>
        cases e2 : valW w2 with
        | none => rw [e2] at a2; cases a2
        | some q =>
          refine ⟨w1, w2, p, q, rfl, e1, e2, ?_⟩
          show ([w1, w2] : List Str).filterMap valW = [p, q]
          rw [List.filterMap_cons_some e1, List.filterMap_cons_some e2]
          rfl
  · obtain ⟨i, hi⟩ := List.mem_iff_getElem?.mp hl
    obtain ⟨r, hr⟩ := h (i + 1) l hi
    obtain ⟨w, ws, rfl, rfl, h3, h4, rfl⟩ := rowW_some hr
    rw [if_neg (Nat.succ_ne_zero i)] at h3 ⊢
    refine ⟨ws, rfl, h3, h4, ?_⟩
    show (ws.filterMap valW).length = 5
    rw [vals_len h4, h3]
theorem text_back {l0 : List Str} {Lr : List (List Str)} {p q : Nat} (G : LsG (l0 :: Lr)) (h : FltAt (l0 :: Lr) none) (e : rowN l0 = [p, q]) (ok : NetOk p q ((Lr.map rowN).map odR)) : textW (l0 :: Lr) = textOf p q ((Lr.map rowN).map odR) := by
  obtain ⟨⟨w1, w2, p', q', rfl, e1, e2, e3⟩, h2⟩ := flt_none h
  rw [e3] at e
  obtain ⟨rfl, e4⟩ := List.cons.inj e
  obtain ⟨rfl, _⟩ := List.cons.inj e4
  have g1 := (G.ln _ (List.mem_cons_self ..)).2.2
  have p30 := ok.p30
  have h10 := ok.h10
  have n1 : nT p' = w1 := (g1 w1 (by simp)).nT _ e1 p30
  have n2 : nT q' = w2 := (g1 w2 (by simp)).nT _ e2 (by omega)
  unfold textW textOf linesOf
  have a : lineW [("net" : Str), w1, w2] = lineNet p' q' := by
    unfold lineW lineNet
    rw [n1, n2]
  have b : Lr.map lineW = ((Lr.map rowN).map odR).map lineOrd := by
    rw [List.map_map, List.map_map]
    refine List.map_congr_left fun l hl => ?_
    obtain ⟨ws, rfl, h5, hs, hr⟩ := h2 l hl
    have gl := (G.ln _ (List.mem_cons_of_mem _ hl)).2.2
    have ho : odR (rowN (("order" : Str) :: ws)) ∈ (Lr.map rowN).map odR := List.mem_map_of_mem (List.mem_map_of_mem hl)
    obtain ⟨b1, b2, b3, b4, b5⟩ := od_le ok ho
    have er := odR_row hr
    show lineW (("order" : Str) :: ws) = lineOrd (odR (rowN (("order" : Str) :: ws)))
    generalize odR (rowN (("order" : Str) :: ws)) = o at b1 b2 b3 b4 b5 er
    have er : ws.filterMap valW = [o.s, o.t, o.f, o.n, o.e] := er
    have l30 : ∀ n ∈ ws.filterMap valW, n ≤ 30 := fun n hn => by
      rw [er] at hn
      simp only [List.mem_cons, List.not_mem_nil, or_false] at hn
      rcases hn with rfl | rfl | rfl | rfl | rfl <;> assumption
    have vb := (vals_back (fun z hz => gl z (List.mem_cons_of_mem _ hz)) hs l30).1
    rw [er] at vb
    have vb : [nT o.s, nT o.t, nT o.f, nT o.n, nT o.e] = ws := vb
    unfold lineW lineOrd wordsO
    rw [vb]
  rw [List.map_cons, a, b]
def NumAt (H : Hp) (v : V) (r : List Nat) : Prop := ∃ u, v = .ref u ∧ H u = some (.lst (nints r))
theorem NumAt.same {H H' : Hp} (s : Same H H') {v : V} {r : List Nat} (h : NumAt H v r) : NumAt H' v r := by
  obtain ⟨u, e, hu⟩ := h
  exact ⟨u, e, s _ _ hu⟩
theorem textD_sh {n : Nat} : PySem.SeqAt.shaped (.tuple [.str "text", .int (n : Nat)]) = true := by
  have h1 : PyData.strOk ("text" : Str) = true := by decide +kernel
  simp [PySem.SeqAt.shaped, PyData.canLay0, PyData.canLayAll0, PyData.depth, PyData.depthAll, h1]
theorem text_lit {K : PySem.W.Frag} {σ : L2.St} {H : Hp} {u : Addr} {n : Nat} {te : TE} {Q : VK} (hu : H u = some (.tup [.str "text", .int (n : Nat)])) (ht : ∀ k : V → Hp → Prop, k (.int (n : Nat)) H → te σ H k) (q : ∀ H', Same H H' → Q (.bl true) H') :
    tTup (tCons (tC (.str "text")) (tCons te tNil)) σ H (fun y H2 => rEqD K (.ref u) y H2 Q) := by
  refine ht _ ⟨(by show 2 ≤ sizeLine; decide), fun y ny => ?_⟩
  have s1 := same_upd (o := HO.tup [.str "text", .int (n : Nat)]) ny
  refine ⟨_, _, .tup (SqT.of (s1 _ _ hu)) (.cons (.str _) (.cons (.int _) .nil)), .tup (SqT.of upd_same) (.cons (.str _) (.cons (.int _) .nil)), textD_sh, textD_sh, ?_⟩
  rw [PySem.SeqAt.eqv_refl _ (PySem.SeqAt.canLay_of_shaped textD_sh)]
  exact q _ s1
theorem net_same {K : PySem.W.Frag} {H : Hp} {u v u' v' : Addr} {part : Str} {n : Nat} {Q : VK} (hp : PyData.strOk part = true) (hu : H u = some (.tup [.str "net", .ref v])) (hv : H v = some (.tup [.str part, .int n])) (hu' : H u' = some (.tup [.str "net", .ref v'])) (hv' : H v' = some (.tup [.str part, .int n])) (q : Q (.bl true) H) : rEqD K (.ref u) (.ref u') H Q := by
  refine ⟨netD part n, netD part n, netD_dp hu hv, netD_dp hu' hv', netD_sh hp, netD_sh hp, ?_⟩
  rw [PySem.SeqAt.eqv_refl _ (PySem.SeqAt.canLay_of_shaped (netD_sh hp))]
  exact q
def NumN (d : Addr) (H : Hp) (v : V) (r : List Nat) : Prop := ∃ u, v = .ref u ∧ u ≠ d ∧ H u = some (.lst (nints r))
theorem rows_ods {H : Hp} {us : List V} {rows : List (List Nat)} (h : Paired (RowTup H) us rows) (h5 : ∀ r ∈ rows, r.length = 5) : Paired (OrdAt H) us (rows.map odR) := by
  induction h with
  | nil => exact .nil
  | cons z _ ih =>
    refine .cons ?_ (ih fun r hr => h5 r (List.mem_cons_of_mem _ hr))
    obtain ⟨u, rfl, hu⟩ := z
    rw [odR_row (h5 _ (List.mem_cons_self ..))] at hu
    exact ⟨u, rfl, hu⟩
/-! ### k27: a head that is a net's text, or not; the text of a session -/
theorem vals_back27 {ws : List Str} (g : ∀ z ∈ ws, WG z) (h : ∀ z ∈ ws, (valW z).isSome = true) (l : ∀ n ∈ ws.filterMap valW, n ≤ 30) : (ws.filterMap valW).map nT = ws := by
  induction ws with
  | nil => rfl
  | cons w r ih =>
    have h1 := h w (List.mem_cons_self ..)
    cases e : valW w with
    | none =>
      rw [e] at h1
      cases h1
    | some n =>
      rw [List.filterMap_cons_some e] at l ⊢
      rw [List.map_cons, ih (fun z hz => g z (List.mem_cons_of_mem _ hz)) (fun z hz => h z (List.mem_cons_of_mem _ hz)) (fun m hm => l m (List.mem_cons_of_mem _ hm)), (g w (List.mem_cons_self ..)).nT n e (l n (List.mem_cons_self ..))]
theorem flt_ex (Ls : List (List Str)) : ∃ o, FltAt Ls o := by
  have key : ∀ n, (∀ i l, i < n → Ls[i]? = some l → ∃ r, rowW i l = some r) ∨ ∃ k, FltAt Ls (some k) := fun n => by
    induction n with
    | zero => exact .inl fun i l h => absurd h (Nat.not_lt_zero i)
    | succ n ih =>
      rcases ih with h | h
      · cases e : Ls[n]? with
        | none =>
          refine .inl fun i l hi hl => ?_
          by_cases c : i = n
          · rw [c, e] at hl
            cases hl
          · exact h i l (by omega) hl
        | some l =>
          cases e2 : rowW n l with
          | none => exact .inr ⟨n, ⟨l, e, e2⟩, h⟩
          | some r =>
            refine .inl fun i l' hi hl => ?_
            by_cases c : i = n
            · rw [c, e] at hl
              cases hl
              exact ⟨r, by rw [c]; exact e2⟩
            · exact h i l' (by omega) hl
      · exact .inr h
  rcases key Ls.length with h | ⟨k, h⟩
  · exact ⟨none, fun i l hl => h i l (List.getElem?_eq_some_iff.mp hl).1 hl⟩
  · exact ⟨some k, h⟩
/-- a text of lines: a net's, or it is refused -/
theorem head_cases {K : PySem.W.Frag} {C DT N : Addr} {Hs : List (List Str)} (G : LsG Hs) (l20 : Hs.length ≤ 20) :
    (∃ p h os, textW Hs = textOf p h os ∧ NetOk p h os ∧ Hs ≠ [[("" : Str)]]) ∨
    (∃ k, ∀ (H : Hp) (Q : VK) (E : XK), (∀ d H', Same H H' → H' d = some (.xd (oneFs "line" k)) → E (.ref DT) (some d) H') → spParseX K C DT N [.ref C, .str (textW Hs)] H Q E) ∨
    (∃ part i, PyData.strOk part = true ∧ ∀ (H : Hp) (Q : VK) (E : XK), (∀ d H', Same H H' → H' d = some (.xd (netFs part i)) → E (.ref N) (some d) H') → spParseX K C DT N [.ref C, .str (textW Hs)] H Q E) := by
  obtain ⟨o, hF⟩ := flt_ex Hs
  have l100 : (Txt.split (textW Hs) "\n").length ≤ 100 := by rw [G.lines, List.length_map]; omega
  have tl : (textW Hs).length ≤ 100000 := Nat.le_trans G.tlen (by decide)
  cases o with
  | some k =>
    obtain ⟨⟨bad, hb1, hb2⟩, hok⟩ := hF
    refine .inr (.inl ⟨k, fun H Q E q => ⟨textW Hs, rfl, tl, .inl ⟨k, lineW bad, l100, fun i l hi hl => ?_, ?_, G.lbad (List.mem_of_getElem? hb1) hb2, q⟩⟩⟩)
    · rw [G.lines, List.getElem?_map] at hl
      obtain ⟨l', hl', rfl⟩ := Option.map_eq_some_iff.mp hl
      obtain ⟨r, hr⟩ := hok i l' hi hl'
      exact ⟨r, G.lok (List.mem_of_getElem? hl') hr⟩
    · rw [G.lines, List.getElem?_map, hb1]
      rfl
  | none =>
    cases Hs with
    | nil => exact absurd rfl G.ne
    | cons l0 Lr =>
    obtain ⟨⟨w1, w2, p, h, el0, _, _, en⟩, h5⟩ := flt_none hF
    have h5r : ∀ r ∈ Lr.map rowN, r.length = 5 := fun r hr => by
      obtain ⟨l, hl, rfl⟩ := List.mem_map.mp hr
      obtain ⟨_, _, _, _, z⟩ := h5 l hl
      exact z
    have lrl : (Lr.map rowN).length ≤ 20 := by
      rw [List.length_map]
      rw [List.length_cons] at l20
      omega
    rcases net_cases (K := K) p h (Lr.map rowN) h5r lrl with ok | ⟨part, i, hpo, hi20, hbad⟩
    · refine .inl ⟨p, h, _, text_back G hF en ok, ok, fun z => ?_⟩
      rw [el0] at z
      have z2 := congrArg (fun l : List (List Str) => l.map List.length) z
      have z3 : (3 : Nat) :: Lr.map List.length = [1] := z2
      cases z3
    · refine .inr (.inr ⟨part, i, hpo, fun H Q E q => ⟨textW (l0 :: Lr), rfl, tl, .inr ⟨p, h, Lr.map rowN, ?_, by rw [List.length_map]; rw [List.length_cons] at l20; omega, fun k l r hl hr => ?_, fun H1 x u us s hu hU => (hbad H1 u us hu hU).init fun d H' s' hd => q d H' (s.trans s') hd⟩⟩⟩)
      · rw [G.lines, List.length_map, List.length_map]
        rfl
      · rw [G.lines, List.getElem?_map] at hl
        obtain ⟨l', hl', rfl⟩ := Option.map_eq_some_iff.mp hl
        obtain ⟨r', hr'⟩ := hF k l' hl'
        have lk := G.lok (List.mem_of_getElem? hl') hr'
        obtain ⟨_, _, _, _, _, _, rfl⟩ := rowW_some hr'
        rw [← en, ← List.map_cons, List.getElem?_map, hl'] at hr
        obtain rfl := Option.some.inj hr
        exact lk
/-- the line of an operation, and its numbers -/
theorem mkOp_line {w : Str} {c : Nat} {ns : List Nat} (h : cntOf w = some c) (hl : ns.length = c) : opWord (mkOp w ns) = w ∧ opNums (mkOp w ns) = ns := by
  have n1 : ¬ ("cancel" : Str) = "add" := by decide +kernel
  have n2 : ¬ ("prolong" : Str) = "add" := by decide +kernel
  have n3 : ¬ ("prolong" : Str) = "cancel" := by decide +kernel
  have n4 : ¬ ("raise" : Str) = "add" := by decide +kernel
  have n5 : ¬ ("raise" : Str) = "cancel" := by decide +kernel
  have n6 : ¬ ("raise" : Str) = "prolong" := by decide +kernel
  have n7 : ¬ ("undo" : Str) = "add" := by decide +kernel
  have n8 : ¬ ("undo" : Str) = "cancel" := by decide +kernel
  have n9 : ¬ ("undo" : Str) = "prolong" := by decide +kernel
  have n10 : ¬ ("undo" : Str) = "raise" := by decide +kernel
  have n11 : ¬ ("redo" : Str) = "add" := by decide +kernel
  have n12 : ¬ ("redo" : Str) = "cancel" := by decide +kernel
  have n13 : ¬ ("redo" : Str) = "prolong" := by decide +kernel
  have n14 : ¬ ("redo" : Str) = "raise" := by decide +kernel
  have n15 : ¬ ("redo" : Str) = "undo" := by decide +kernel
  unfold mkOp
  rcases cntOf_cases h with ⟨rfl, rfl⟩ | ⟨rfl, rfl⟩ | ⟨rfl, rfl⟩ | ⟨rfl, rfl⟩ | ⟨rfl, rfl⟩ | ⟨rfl, rfl⟩
  · rw [if_pos rfl]
    exact ⟨rfl, (odR_row hl).symm⟩
  · match ns, hl with
    | [k], _ =>
      rw [if_neg n1, if_pos rfl]
      exact ⟨rfl, rfl⟩
  · match ns, hl with
    | [k, n], _ =>
      rw [if_neg n2, if_neg n3, if_pos rfl]
      exact ⟨rfl, rfl⟩
  · match ns, hl with
    | [k], _ =>
      rw [if_neg n4, if_neg n5, if_neg n6, if_pos rfl]
      exact ⟨rfl, rfl⟩
  · match ns, hl with
    | [], _ =>
      rw [if_neg n7, if_neg n8, if_neg n9, if_neg n10, if_pos rfl]
      exact ⟨rfl, rfl⟩
  · match ns, hl with
    | [], _ =>
      rw [if_neg n11, if_neg n12, if_neg n13, if_neg n14, if_neg n15]
      exact ⟨rfl, rfl⟩
theorem opW_line {l : List Str} {op : Opn} (g : LnG WL27 l) (h : opW l = some op) : opLine op = lineW l ∧ OpSm op := by
  cases l with
  | nil => exact absurd rfl g.ne
  | cons w ws =>
    cases e : cntOf w with
    | none =>
      rw [opW_no e] at h
      cases h
    | some c =>
      rw [opW_row e] at h
      obtain ⟨ns, er, rfl⟩ := Option.map_eq_some_iff.mp h
      obtain ⟨r1, r2, rfl⟩ := rowOf_some er
      have nl : (ws.filterMap valW).length = c := by rw [fm_len r2, r1]
      obtain ⟨m1, m2⟩ := mkOp_line e nl
      have l30 : ∀ n ∈ ws.filterMap valW, n ≤ 30 := fun n hn => by
        obtain ⟨z, hz, ez⟩ := List.mem_filterMap.mp hn
        exact wl27_30 z (g.ws z (List.mem_cons_of_mem _ hz)) n ez
      refine ⟨?_, fun n hn => l30 n (by rw [m2] at hn; exact hn)⟩
      unfold opLine opWords lineW
      rw [m1, m2, vals_back27 (fun z hz => g.wg z (List.mem_cons_of_mem _ hz)) r2 l30]
theorem opsW_lines {Ls : List (List Str)} (g : ∀ l ∈ Ls, LnG WL27 l) (h : ∀ l ∈ Ls, (opW l).isSome = true) : (opsW Ls).map opLine = Ls.map lineW ∧ ∀ op ∈ opsW Ls, OpSm op := by
  induction Ls with
  | nil => exact ⟨rfl, fun op h => by cases h⟩
  | cons l r ih =>
    have h1 := h l (List.mem_cons_self ..)
    cases e : opW l with
    | none =>
      rw [e] at h1
      cases h1
    | some op =>
      obtain ⟨i1, i2⟩ := ih (fun z hz => g z (List.mem_cons_of_mem _ hz)) fun z hz => h z (List.mem_cons_of_mem _ hz)
      obtain ⟨o1, o2⟩ := opW_line (g l (List.mem_cons_self ..)) e
      have ec : opsW (l :: r) = op :: opsW r := List.filterMap_cons_some e
      rw [ec, List.map_cons, List.map_cons, i1, o1]
      refine ⟨rfl, fun z hz => ?_⟩
      rcases List.mem_cons.mp hz with rfl | y
      · exact o2
      · exact i2 z y
theorem sess_back {Ns : List (List Str)} {m p h : Nat} {os : List Od} (g : ∀ l ∈ Ns, LnG WL27 l) (hm : Ns[m]? = some [("changes" : Str)]) (m1 : 0 < m) (et : Txt.join "\n" ((Ns.take m).map lineW) = textOf p h os) (hall : ∀ l ∈ Ns.drop (m + 1), (opW l).isSome = true) : textW Ns = sessText p h os (opsW (Ns.drop (m + 1))) := by
  have ml : m < Ns.length := (List.getElem?_eq_some_iff.mp hm).1
  have e1 : Ns = Ns.take m ++ [("changes" : Str)] :: Ns.drop (m + 1) := by
    have h2 : Ns.take m ++ Ns.drop m = Ns := List.take_append_drop m Ns
    rw [List.drop_eq_getElem_cons ml] at h2
    have h3 : Ns[m] = [("changes" : Str)] := Option.some.inj ((List.getElem?_eq_getElem ml).symm.trans hm)
    rw [h3] at h2
    exact h2.symm
  have lc : lineW [("changes" : Str)] = "changes" := by decide +kernel
  unfold textW sessText
  rw [(opsW_lines (fun l hl => g l (List.mem_of_mem_drop hl)) hall).1, ← et]
  have e2 : Ns.map lineW = (Ns.take m).map lineW ++ (("changes" : Str) :: (Ns.drop (m + 1)).map lineW) := by
    conv => lhs; rw [e1, List.map_append, List.map_cons, lc]
  rw [e2]
  have ne : (Ns.take m).map lineW ≠ [] := fun z => by
    have := congrArg List.length z
    rw [List.length_map, List.length_take] at this
    have e : min m Ns.length = 0 := this
    omega
  generalize (Ns.take m).map lineW = xs at ne
  generalize (Ns.drop (m + 1)).map lineW = ys
  rw [TL.join_eq, TL.join_eq, TL.join_eq]
  refine TL.ext_tl ?_
  rw [TL.tl_join, TL.tl_join, List.map_cons, TL.tl_join, joinL_joined _ _ (fun z => ne (List.map_eq_nil_iff.mp z)), List.map_append, List.map_cons]
theorem opD_sh {n : Nat} : PySem.SeqAt.shaped (.tuple [.str "operation", .int (n : Nat)]) = true := by
  have h1 : PyData.strOk ("operation" : Str) = true := by decide +kernel
  simp [PySem.SeqAt.shaped, PyData.canLay0, PyData.canLayAll0, PyData.depth, PyData.depthAll, h1]
theorem pair_same {K : PySem.W.Frag} {H : Hp} {u u' : Addr} {s : Str} {n : Nat} {Q : VK} (sh : PySem.SeqAt.shaped (.tuple [.str s, .int (n : Nat)]) = true) (hu : H u = some (.tup [.str s, .int (n : Nat)])) (hu' : H u' = some (.tup [.str s, .int (n : Nat)])) (q : Q (.bl true) H) : rEqD K (.ref u) (.ref u') H Q := by
  refine ⟨_, _, .tup (SqT.of hu) (.cons (.str _) (.cons (.int _) .nil)), .tup (SqT.of hu') (.cons (.str _) (.cons (.int _) .nil)), sh, sh, ?_⟩
  rw [PySem.SeqAt.eqv_refl _ (PySem.SeqAt.canLay_of_shaped sh)]
  exact q
theorem LsC.lsum {n : Nat} {Ls : List (List Str)} (h : LsC WL27 n 9 Ls) {l : List Str} (hl : l ∈ Ls) : (l.map (·.length)).sum + l.length * (" " : Str).length ≤ 440 := by
  obtain ⟨h1, h2⟩ := h.ln l hl
  have h4 : (l.map (·.length)).sum ≤ (l.map (·.length)).length * 10 := sum_le_mul fun x hx => by
    obtain ⟨w, hw, rfl⟩ := List.mem_map.mp hx
    exact (wl27 (h2 w hw)).len
  rw [List.length_map] at h4
  rw [len_sp]
  omega
theorem first_changes {Ns : List (List Str)} (h : [("changes" : Str)] ∈ Ns) : ∃ m, Ns[m]? = some [("changes" : Str)] ∧ ∀ (i : Nat) l, i < m → Ns[i]? = some l → l ≠ [("changes" : Str)] := by
  rcases first_bad (fun l : List Str => !decide (l = [("changes" : Str)])) Ns with g | ⟨i, x, h1, h2, h3⟩
  · have := g _ h
    rw [decide_eq_true rfl] at this
    cases this
  · have hx : x = [("changes" : Str)] := by
      by_cases c : x = [("changes" : Str)]
      · exact c
      · rw [decide_eq_false c] at h2
        cases h2
    subst hx
    refine ⟨i, h1, fun j l hj hl e => ?_⟩
    have := h3 l (List.mem_of_getElem? (i := j) (by rw [List.getElem?_take_of_lt hj]; exact hl))
    rw [e, decide_eq_true rfl] at this
    cases this
/-- the lines of a session's net -/
def headL (Ns : List (List Str)) (m : Nat) : List (List Str) := if m = 0 then [[("" : Str)]] else Ns.take m
theorem headL_text (Ns : List (List Str)) (m : Nat) : textW (headL Ns m) = Txt.join "\n" ((Ns.take m).map lineW) := by
  unfold headL textW
  by_cases c : m = 0
  · rw [if_pos c, c]
    show _ = Txt.join "\n" []
    decide +kernel
  · rw [if_neg c]
theorem headL_ok {Ns : List (List Str)} {m : Nat} (g : ∀ l ∈ Ns, LnG WL27 l) (hm : m < Ns.length) (l60 : Ns.length ≤ 60) : LsG (headL Ns m) := by
  unfold headL
  by_cases c : m = 0
  · rw [if_pos c]
    exact ⟨by simp, by show 1 ≤ 60; decide, fun l hl => by
      obtain rfl := List.mem_singleton.mp hl
      exact ⟨by simp, by show 1 ≤ 40; decide, fun w hw => by rw [List.mem_singleton.mp hw]; exact wl27 (by decide +kernel)⟩⟩
  · rw [if_neg c]
    refine ⟨fun z => ?_, ?_, fun l hl => ?_⟩
    · have := congrArg List.length z
      rw [List.length_take] at this
      have e : min m Ns.length = 0 := this
      omega
    · rw [List.length_take]
      omega
    · have gl := g l (List.mem_of_mem_take hl)
      exact ⟨gl.ne, gl.len, gl.wg⟩
def OpnsX (H : Hp) (xs : List V) (ops : List Opn) : Prop := Paired (fun v op => ∃ a, v = .ref a ∧ OpnAt H a op) xs ops
theorem ordE27 {n : Nat} {H : Hp} {v v' : V} {o : Od} (h : OrdAt H v o) (h' : OrdAt H v' o) : Eqv (n + 1) H v v' := by
  obtain ⟨u, rfl, hu⟩ := h
  obtain ⟨u', rfl, hu'⟩ := h'
  exact .inr (.inl ⟨u, u', _, _, rfl, rfl, hu, hu', by show 5 ≤ 1000; decide, .cons Eqv.int (.cons Eqv.int (.cons Eqv.int (.cons Eqv.int (.cons Eqv.int .nil))))⟩)
theorem opn_eqv27 {H : Hp} {a b : Addr} {op : Opn} (h : OpnAt H a op) (h' : OpnAt H b op) : Eqv 2 H (.ref a) (.ref b) := by
  have st : ∀ {n : Nat} {w : Str}, Eqv n H (.str w) (.str w) := fun {n w} => Eqv.flat rfl (.inr (.inr (.inr ⟨w, rfl⟩)))
  cases op with
  | add od =>
    obtain ⟨v, h1, h2⟩ := h
    obtain ⟨v', h1', h2'⟩ := h'
    exact .inr (.inl ⟨a, b, _, _, rfl, rfl, h1, h1', by show 2 ≤ 1000; decide, .cons st (.cons (ordE27 h2 h2') .nil)⟩)
  | cancel i => exact .inr (.inl ⟨a, b, _, _, rfl, rfl, h, h', by show 2 ≤ 1000; decide, .cons st (.cons Eqv.int .nil)⟩)
  | prolong i n => exact .inr (.inl ⟨a, b, _, _, rfl, rfl, h, h', by show 3 ≤ 1000; decide, .cons st (.cons Eqv.int (.cons Eqv.int .nil))⟩)
  | rais i => exact .inr (.inl ⟨a, b, _, _, rfl, rfl, h, h', by show 2 ≤ 1000; decide, .cons st (.cons Eqv.int .nil)⟩)
  | undo => exact .inr (.inl ⟨a, b, _, _, rfl, rfl, h, h', by show 1 ≤ 1000; decide, .cons st .nil⟩)
  | redo => exact .inr (.inl ⟨a, b, _, _, rfl, rfl, h, h', by show 1 ≤ 1000; decide, .cons st .nil⟩)
theorem ops_eqv27 {H : Hp} : ∀ {xs ys : List V} {ops : List Opn}, Paired (fun v op => ∃ a, v = .ref a ∧ OpnAt H a op) xs ops → Paired (fun v op => ∃ a, v = .ref a ∧ OpnAt H a op) ys ops → Paired (Eqv 2 H) xs ys
  | _, _, _, .nil, .nil => .nil
  | _, _, _, .cons a t, .cons b u => by
    obtain ⟨z, rfl, hz⟩ := a
    obtain ⟨y, rfl, hy⟩ := b
    exact .cons (opn_eqv27 hz hy) (ops_eqv27 t u)
abbrev s_law : Stmt := top 52
abbrev N_law : List Str := ["_law_script", "_law_d", "_law_lines", "_law_k", "_law_some", "_law_words", "_law_change", "_law_kind", "_law_word", "_law_at", "_law_rest", "_law_line", "_law_rows", "_law_place", "_law_error", "_law_head", "_law_operations", "_law_text"]
abbrev P_law : List Str := ["_law_script"]
theorem sc_law : FnScope N_law P_law (defScope s_law) := ⟨rfl, rfl, rfl, by decide +kernel, rfl, by decide +kernel, by decide +kernel⟩
def spParseB (K : PySem.W.Frag) (C D N : Addr) : Sp := fun vs H Q E => spParse C vs H Q E ∨ spParseX K C D N vs H Q E
def spReplayB (O C D : Addr) : Sp := fun vs H Q E => spReplay O C vs H Q E ∨ spReplayG O C D vs H Q E
section
open LamX (Tabs TabB)
variable {P : Program} {w : World} {K : PySem.W.Frag} {mg : Str → Option Value} {base : Heap}
set_option maxHeartbeats 0 in
theorem ok_law {f C O fX fP pP fR pR fPs cL Pt CP : Addr} {cE : Nat → Addr} {fd fdX fdP fdR fdPs : FuncData} (F : FunC K "law" "law" s_law f fd cL) (TBl : TabB base mg cL Pt) (B : Blt mg)
    (FX : Fun K "_law_error_of" "_law_error_of" s_l_error_of fX fdX) (gX : mg "_law_error_of" = some (.ref fX)) (kX : PySem.W.keepIn K (.ref fX) = true) (bX : Binds K fdX P_l_error_of []) (ME : ErrM mg CP cE) (e11 : Err15 K CP cE (cE 11) 11) (xc11 : XfC K (cE 11)) (xf1 : PySem.W.findIn K (.ref (cE 11)) "part" = some none) (xf2 : PySem.W.findIn K (.ref (cE 11)) "index" = some none) (e12 : Err15 K CP cE (cE 12) 12) (xc12 : XfC K (cE 12)) (xf3 : PySem.W.findIn K (.ref (cE 12)) "line" = some none) (e14 : Err15 K CP cE (cE 14) 14) (xc14 : XfC K (cE 14)) (xf4 : PySem.W.findIn K (.ref (cE 14)) "place" = some none)
    (DR : Df P w K mg base "_law_random" 2 P_l_random (spRandom K)) (DB : Df P w K mg base "_law_below" 2 P_l_below spBelow) (DL : Df P w K mg base "_law_parsed_line" 3 P_l_parsed_line (spLawLine WL27)) (DE : ∀ n, Df P w K mg base "_law_equal" (n + 2) P_l_equal (spEqual n))
    (gC : mg "Net" = some (.ref C)) (rC : ClX.CRead K C (.type "type")) (cP : ClX.CMet K C (.type "type") "parse" pP fP) (GP : FnOk P w K mg base CX0 7 fP fdP P_Net_parse (spParse C)) (GPB : FnOk P w K mg base (L2.CX P w) 7 fP fdP P_Net_parse (spParseB K C (cE 12) (cE 11))) (bP : Binds K fdP P_Net_parse [])
    (gO : mg "Office" = some (.ref O)) (rO : ClX.CRead K O (.type "type")) (cR : ClX.CMet K O (.type "type") "replay" pR fR) (GRB : FnOk P w K mg base (L2.CX P w) 6 fR fdR P_Office_replay (spReplayB O C (cE 14))) (bR : Binds K fdR P_Office_replay [])
    (gPs : mg "parse_session" = some (.ref fPs)) (kPs : PySem.W.keepIn K (.ref fPs) = true) (bPs : Binds K fdPs P_parse_session []) (GPs : FnOk P w K mg base CX0 8 fPs fdPs P_parse_session (spParseSess C)) (GPX : FnOk P w K mg base (L2.CX P w) 8 fPs fdPs P_parse_session (spParseSG K C (cE 12) (cE 11) (cE 14) WL27)) : FnOk P w K mg base CX0 11 f fd P_law (spLawT K Pt) := by
  obtain ⟨f1, d1, g1, k1, b1, G1⟩ := DR
  obtain ⟨fB, dB, gB, kB, bB, GB⟩ := DB
  obtain ⟨fL, dL, gL, kL, bL, GL⟩ := DL
  obtain ⟨fE, dE, gE, kE, bE, GE⟩ := DE 4
  obtain ⟨ocX, odX, kVX, docX, pmX, anX, cdvX, ctX, oslX, rfl, lkX, hcX⟩ := FX.ex
  have FP : FnR P w K mg base CX0 7 fP (spParse C) := (GP.raw bP .nil).imp fun vs H Q E h => by rw [List.append_nil]; exact h
  have FPX : FnR P w K mg base (L2.CX P w) 7 fP (spParseB K C (cE 12) (cE 11)) := (GPB.raw bP .nil).imp fun vs H Q E h => by rw [List.append_nil]; exact h
  have FRX : FnR P w K mg base (L2.CX P w) 6 fR (spReplayB O C (cE 14)) := (GRB.raw bR .nil).imp fun vs H Q E h => by rw [List.append_nil]; exact h
  refine F.ok sc_law (fun vs H Q E h => ?_) (fun A outer s H vs Q E hr h => ?_)
  · obtain ⟨a, ns, rfl, _⟩ := h
    rfl
  · obtain ⟨a, ns, rfl, hS, hlen, hPt, qz⟩ := h
    have hr2 : Room 2 _ := hr.mono (by decide)
    have hr3 : Room 3 _ := hr.mono (by decide)
    have hr6 : Room 6 _ := hr.mono (by decide)
    have hr8 : Room 8 _ := hr.mono (by decide)
    have hu : (A.deeper (PyProof.Rows.envOfC "law" (defScope s_law) s.heap.objs.size f (.ref cL))).units + 64 < cLine := hr.units
    refine ⟨_, (pss_cons (ps_set (i := 1) sc_law.nd rfl (.inl rfl) (pe_call G1 hr2 (by rfl) g1 k1 b1 .nil pass0 (pa_cons (pv 0) (pa_cons pe_int pa_nil))))
      (pss_cons (ps_set (i := 2) sc_law.nd rfl (.inl rfl) (pe_lst (pa_cons (pe_lst (pa_cons pe_str (pa_cons pe_str (pa_cons pe_str pa_nil)))) (pa_cons (pe_lst (pa_cons pe_str (pa_cons pe_str (pa_cons pe_str (pa_cons pe_str (pa_cons pe_str (pa_cons pe_str pa_nil))))))) (pa_cons (pe_lst (pa_cons pe_str pa_nil)) pa_nil)))))
      (pss_cons (ps_for PassesOwn.never rfl (pi_range1 rfl B.range (pa_cons (pe_call GB hr2 (by rfl) gB kB bB .nil pass0 (pa_cons (pv 1) (pa_cons pe_int pa_nil))) pa_nil)) (pg_name (i := 3) sc_law.nd rfl (.inl rfl)) (pss_cons (ps_set (i := 4) sc_law.nd rfl (.inl rfl) (pe_lst (pa_cons (pe_lst (pa_cons pe_str (pa_cons pe_str (pa_cons pe_str (pa_cons pe_str (pa_cons pe_str (pa_cons pe_str pa_nil))))))) (pa_cons (pe_lst (pa_cons pe_str (pa_cons pe_str pa_nil))) (pa_cons (pe_lst (pa_cons pe_str (pa_cons pe_str (pa_cons pe_str pa_nil)))) (pa_cons (pe_lst (pa_cons pe_str (pa_cons pe_str pa_nil))) pa_nil))))))
      (pss_one (ps_expr (pe_bm PySem.F.plainAttrs_list PySem.F.slot_list_append PySem.F.type_list_append mt_append (pv 2) (pa_cons (pe_ix ix_list (pe_op op_cat (pv 4) (pe_lst (pa_cons (pe_lst (pa_cons pe_str pa_nil)) (pa_cons (pe_lst (pa_cons pe_str pa_nil)) pa_nil)))) (pe_call GB hr2 (by rfl) gB kB bB .nil pass0 (pa_cons (pv 1) (pa_cons pe_int pa_nil))) (fun _ _ => rfl)) pa_nil))))))
      (C8.pss_cut (ps_if (pt_cmpR op_eq (pe_call GB hr2 (by rfl) gB kB bB .nil pass0 (pa_cons (pv 1) (pa_cons pe_int pa_nil))) pe_int (nomark _)) (pss_one (ps_expr (pe_bm PySem.F.plainAttrs_list PySem.F.slot_list_append PySem.F.type_list_append mt_append (pv 2) (pa_cons (pe_slice sl_list (pe_lst (pa_cons pe_str (pa_cons pe_str (pa_cons pe_str (pa_cons pe_str (pa_cons pe_str (pa_cons pe_str (pa_cons pe_str pa_nil)))))))) po_none (po_some (pe_ix ix_list (pe_lst (pa_cons pe_int (pa_cons pe_int (pa_cons pe_int pa_nil)))) (pe_call GB hr2 (by rfl) gB kB bB .nil pass0 (pa_cons (pv 1) (pa_cons pe_int pa_nil))) (fun _ _ => rfl)))) pa_nil)))) pss_nil)
      (pss_cons (ps_set (i := 5) sc_law.nd rfl (.inl rfl) (pe_lst (pa_cons pe_str (pa_cons pe_str (pa_cons pe_str (pa_cons pe_str (pa_cons pe_str (pa_cons pe_str (pa_cons pe_str (pa_cons pe_str (pa_cons pe_str (pa_cons pe_str pa_nil))))))))))))
      (pss_cons (ps_for PassesOwn.never rfl (pi_range1 rfl B.range (pa_cons (pe_call GB hr2 (by rfl) gB kB bB .nil pass0 (pa_cons (pv 1) (pa_cons pe_int pa_nil))) pa_nil)) (pg_name (i := 6) sc_law.nd rfl (.inl rfl)) (pss_cons (ps_par3 (by rfl) sc_law.nd (i := 3) (j := 7) (l := 8) rfl rfl rfl (by decide) (by decide) (by decide) rfl rfl rfl (pa_cons (pe_call GB hr2 (by rfl) gB kB bB .nil pass0 (pa_cons (pv 1) (pa_cons (pe_callB call_len_seq (by rfl) B.len PySem.boot_len (pa_cons (pv 2) pa_nil)) pa_nil))) (pa_cons (pe_call GB hr2 (by rfl) gB kB bB .nil pass0 (pa_cons (pv 1) (pa_cons pe_int pa_nil))) (pa_cons (pe_ix ix_list (pv 5) (pe_call GB hr2 (by rfl) gB kB bB .nil pass0 (pa_cons (pv 1) (pa_cons pe_int pa_nil))) (fun _ _ => rfl)) pa_nil))) (by rfl))
      (pss_cons (ps_set (i := 9) sc_law.nd rfl (.inl rfl) (pe_call GB hr2 (by rfl) gB kB bB .nil pass0 (pa_cons (pv 1) (pa_cons (pe_op op_add (pe_callB call_len_seq (by rfl) B.len PySem.boot_len (pa_cons (pe_ix ix_list (pv 2) (pv 3) (fun _ _ => rfl)) pa_nil)) pe_int) pa_nil))))
      (pss_one (ps_if (pt_cmpR op_eq (pv 7) pe_int (nomark _)) (pss_one (ps_set (i := 2) sc_law.nd rfl (.inl rfl) (pe_op op_cat (pe_op op_cat (pe_slice sl_list (pv 2) po_none (po_some (pv 3))) (pe_lst (pa_cons (pe_lst (pa_cons (pv 8) pa_nil)) pa_nil))) (pe_slice sl_list (pv 2) (po_some (pv 3)) po_none)))) (pss_cons (ps_set (i := 10) sc_law.nd rfl (.inl rfl) (pe_slice sl_list (pe_ix ix_list (pv 2) (pv 3) (fun _ _ => rfl)) (po_some (pe_op op_add (pv 9) (pe_op op_modN (pv 7) pe_int))) po_none))
      (pss_cons (ps_set (i := 11) sc_law.nd rfl (.inl rfl) (pe_op op_cat (pe_op op_cat (pe_slice sl_list (pe_ix ix_list (pv 2) (pv 3) (fun _ _ => rfl)) po_none (po_some (pv 9))) (pe_op op_rep (pe_lst (pa_cons (pv 8) pa_nil)) (pe_op op_fdivN (pv 7) pe_int))) (pv 10)))
      (pss_one (ps_set (i := 2) sc_law.nd rfl (.inl rfl) (pe_op op_cat (pe_op op_cat (pe_slice sl_list (pv 2) po_none (po_some (pv 3))) (pe_lst (pa_cons (pv 11) pa_nil))) (pe_slice sl_list (pv 2) (po_some (pe_op op_add (pv 3) pe_int)) po_none)))))))))))
      (pss_cons (ps_set (i := 17) sc_law.nd rfl (.inr rfl) (pe_join pe_str (pe_lc (own := [("_law_line", 11)]) (g := gName 11) (tt := tYes) (te := tM1 (fun x xs H Q => ∃ a p, ∃ ys : List Str, x = .str a ∧ xs = [.ref p] ∧ (SqL K H p (ys.map V.str) ∨ SqT K H p (ys.map V.str)) ∧ (ys.map (·.length)).sum + ys.length * a.length ≤ 16777216 ∧ Q (.str (Txt.join a ys)) H) (tC (.str " ")) (tVar 11)) (by rfl) sc_law.nd
        (pi_list (pv 2)) (blkOk_by (N := N_law) (sc := defScope s_law) (by decide +kernel)) (fun _ _ _ _ _ => (pg_name (i := 11) sc_law.nd rfl (.inl rfl))) (fun _ _ _ _ _ => pts_nil) (fun _ _ _ _ _ => pe_join pe_str (pv 11)))))
      (pss_cons (ps_set (i := 12) sc_law.nd rfl (.inl rfl) (pe_split (pv 17) pe_str))
      (pss_cons (ps_if (pt_cmpR op_notIn_seq pe_str (pv 12) rfl) (pss_one (ps_ret (pe_cmpR (op_eqD hu) (LamX.pe_lamcall (T := [(Pt, _)]) (TT := TTerrE K CP cE) (k := 8) (Ng := N_l_error_of) (t := (fun E => tCall (spParseSG K C (cE 12) (cE 11) (cE 14) WL27) [] E (tCons (tVar 17) tNil))) (by rfl) gX kX lkX hcX bX sc_l_error_of rfl (.inl rfl) (err_givesE ME B hr) TBl rfl List.mem_cons_self (fun p hp _ => by rw [List.mem_singleton.mp hp]) hr (LamX.lamS_by (by show LamX.lamSB (defScope s_law) _ = true; decide +kernel)) rfl (fun _ _ _ _ _ => rfl)
        (fun A outer s H E f c' hr' => pe_call (E := E) GPX hr' (by rfl) gPs kPs bPs .nil (passes_call (takes_of rfl rfl rfl rfl) fun _ _ _ _ z => z) (pa_cons (pv 17) pa_nil))) (pe_tup (pa_cons pe_str (pa_cons (pe_callB call_len_seq (by rfl) B.len PySem.boot_len (pa_cons (pv 12) pa_nil)) pa_nil))) (nomark _)))) pss_nil)
      (pss_cons (ps_set (i := 13) sc_law.nd rfl (.inl rfl) (pe_bm PySem.F.plainAttrs_list PySem.F.slot_list_index PySem.F.type_list_index mt_index (pv 12) (pa_cons pe_str pa_nil)))
      (pss_cons (ps_set (i := 15) sc_law.nd rfl (.inr rfl) (pe_join pe_str (pe_slice sl_list (pv 12) po_none (po_some (pv 13)))))
      (pss_cons (ps_set (i := 14) sc_law.nd rfl (.inl rfl) (LamX.pe_lamcall (T := [(Pt, _)]) (TT := TTerrE K CP cE) (k := 8) (Ng := N_l_error_of) (t := (fun E => ClX.tCMeth C (spParseB K C (cE 12) (cE 11)) E (tC (.ref C)) (tCons (tVar 15) tNil))) (by rfl) gX kX lkX hcX bX sc_l_error_of rfl (.inl rfl) (err_givesE ME B hr) TBl rfl List.mem_cons_self (fun p hp _ => by rw [List.mem_singleton.mp hp]) hr (LamX.lamS_by (by show LamX.lamSB (defScope s_law) _ = true; decide +kernel)) rfl (fun _ _ _ _ _ => rfl)
        (fun A outer s H E f c' hr' => ClX.pe_cmeth (E := E) (pe_glob (v := .ref C) rfl gC rfl) rC cP FPX (hr'.mono (by decide)) (passes_call (takes_of rfl rfl rfl rfl) fun _ _ _ _ z => z) (pa_cons (pv 15) pa_nil))))
      (pss_cons (ps_if (pt_cmpR op_notN (pv 14) pe_non (nomark _)) (pss_one (ps_ret (pe_cmpR (op_eqD hu) (LamX.pe_lamcall (T := [(Pt, _)]) (TT := TTerrE K CP cE) (k := 8) (Ng := N_l_error_of) (t := (fun E => tCall (spParseSG K C (cE 12) (cE 11) (cE 14) WL27) [] E (tCons (tVar 17) tNil))) (by rfl) gX kX lkX hcX bX sc_l_error_of rfl (.inl rfl) (err_givesE ME B hr) TBl rfl List.mem_cons_self (fun p hp _ => by rw [List.mem_singleton.mp hp]) hr (LamX.lamS_by (by show LamX.lamSB (defScope s_law) _ = true; decide +kernel)) rfl (fun _ _ _ _ _ => rfl)
        (fun A outer s H E f c' hr' => pe_call (E := E) GPX hr' (by rfl) gPs kPs bPs .nil (passes_call (takes_of rfl rfl rfl rfl) fun _ _ _ _ z => z) (pa_cons (pv 17) pa_nil))) (pv 14) (nomark _)))) pss_nil)
      (pss_cons (ps_set (i := 16) sc_law.nd rfl (.inr rfl) (pe_lst pa_nil))
      (pss_cons (ps_for PassesOwn.never rfl (pi_range2 rfl B.range (pa_cons (pe_op op_add (pv 13) pe_int) (pa_cons (pe_callB call_len_seq (by rfl) B.len PySem.boot_len (pa_cons (pv 12) pa_nil)) pa_nil))) (pg_name (i := 3) sc_law.nd rfl (.inl rfl)) (pss_cons (ps_expr (pe_bm PySem.F.plainAttrs_list PySem.F.slot_list_append PySem.F.type_list_append mt_append (pv 16) (pa_cons (pe_call GL hr3 (by rfl) gL kL bL .nil pass0 (pa_cons (pe_split (pe_ix ix_list (pv 12) (pv 3) (fun _ _ => rfl)) pe_str) pa_nil)) pa_nil)))
      (pss_one (ps_if (pt_cmpR op_isN (pe_ix ix_list (pv 16) (pe_un un_neg pe_int) (fun _ _ => rfl)) pe_non (nomark _)) (pss_one (ps_ret (pe_cmpR (op_eqD hu) (LamX.pe_lamcall (T := [(Pt, _)]) (TT := TTerrE K CP cE) (k := 8) (Ng := N_l_error_of) (t := (fun E => tCall (spParseSG K C (cE 12) (cE 11) (cE 14) WL27) [] E (tCons (tVar 17) tNil))) (by rfl) gX kX lkX hcX bX sc_l_error_of rfl (.inl rfl) (err_givesE ME B hr) TBl rfl List.mem_cons_self (fun p hp _ => by rw [List.mem_singleton.mp hp]) hr (LamX.lamS_by (by show LamX.lamSB (defScope s_law) _ = true; decide +kernel)) rfl (fun _ _ _ _ _ => rfl)
        (fun A outer s H E f c' hr' => pe_call (E := E) GPX hr' (by rfl) gPs kPs bPs .nil (passes_call (takes_of rfl rfl rfl rfl) fun _ _ _ _ z => z) (pa_cons (pv 17) pa_nil))) (pe_tup (pa_cons pe_str (pa_cons (pv 3) pa_nil))) (nomark _)))) pss_nil))))
      (pss_cons (ps_set (i := 14) sc_law.nd rfl (.inl rfl) (LamX.pe_lamcall (T := [(Pt, _)]) (TT := TTerrE K CP cE) (k := 8) (Ng := N_l_error_of) (t := (fun E => ClX.tCMeth O (spReplayB O C (cE 14)) E (tC (.ref O)) (tCons (ClX.tCMeth C (spParse C) E0 (tC (.ref C)) (tCons (tVar 15) tNil)) (tCons (tVar 16) tNil)))) (by rfl) gX kX lkX hcX bX sc_l_error_of rfl (.inl rfl) (err_givesE ME B hr) TBl rfl List.mem_cons_self (fun p hp _ => by rw [List.mem_singleton.mp hp]) hr (LamX.lamS_by (by show LamX.lamSB (defScope s_law) _ = true; decide +kernel)) rfl (fun _ _ _ _ _ => rfl)
        (fun A outer s H E f c' hr' => ClX.pe_cmeth (E := E) (pe_glob (v := .ref O) rfl gO rfl) rO cR FRX (hr'.mono (by decide)) (passes_call (takes_of rfl rfl rfl rfl) fun _ _ _ _ z => z) (pa_cons (ClX.pe_cmeth (pe_glob (v := .ref C) rfl gC rfl) rC cP FP (hr'.mono (by decide)) pass0 (pa_cons (pv 15) pa_nil)) (pa_cons (pv 16) pa_nil)))))
      (pss_cons (ps_if (pt_cmpR op_notN (pv 14) pe_non (nomark _)) (pss_one (ps_ret (pe_cmpR (op_eqD hu) (LamX.pe_lamcall (T := [(Pt, _)]) (TT := TTerrE K CP cE) (k := 8) (Ng := N_l_error_of) (t := (fun E => tCall (spParseSG K C (cE 12) (cE 11) (cE 14) WL27) [] E (tCons (tVar 17) tNil))) (by rfl) gX kX lkX hcX bX sc_l_error_of rfl (.inl rfl) (err_givesE ME B hr) TBl rfl List.mem_cons_self (fun p hp _ => by rw [List.mem_singleton.mp hp]) hr (LamX.lamS_by (by show LamX.lamSB (defScope s_law) _ = true; decide +kernel)) rfl (fun _ _ _ _ _ => rfl)
        (fun A outer s H E f c' hr' => pe_call (E := E) GPX hr' (by rfl) gPs kPs bPs .nil (passes_call (takes_of rfl rfl rfl rfl) fun _ _ _ _ z => z) (pa_cons (pv 17) pa_nil))) (pv 14) (nomark _)))) pss_nil)
      (pss_one (ps_ret (pe_call GE hr6 (by rfl) gE kE bE .nil pass0 (pa_cons (pe_call GPs hr8 (by rfl) gPs kPs bPs .nil pass0 (pa_cons (pv 17) pa_nil)) (pa_cons (pe_tup (pa_cons (pv 15) (pa_cons (pv 16) pa_nil))) pa_nil)))))))))))))))))))))), ?_⟩
    refine ⟨_, rfl, a, ns, 27, rfl, hS, hlen, by decide, fun H1 d s1 nd D1 => ?_⟩
    let qL : Str := (PyProof.Rows.envOfC "law" (defScope s_law) 0 0 .none).qual ++ "<lambda>"
    have T1 : Tabs [(Pt, qL)] H1 := fun p hp => by
      rw [List.mem_singleton.mp hp]
      exact LamX.TabS.nil (s1 _ _ hPt)
    clear s1 nd
    refine ⟨(by show 3 ≤ sizeLine; decide), fun u1 nu1 => ⟨(by show 6 ≤ sizeLine; decide), fun u2 nu2 => ⟨(by show 1 ≤ sizeLine; decide), fun u3 nu3 => ⟨(by show 3 ≤ sizeLine; decide), fun la nla => ?_⟩⟩⟩⟩
    have su1 := same_upd (o := HO.lst [.str "net", .str "4", .str "3"]) nu1
    have hu1 := (upd_same : (L2.upd H1 u1 (.lst [.str "net", .str "4", .str "3"])) u1 = _)
    generalize (L2.upd H1 u1 (.lst [.str "net", .str "4", .str "3"])) = Ca1 at su1 hu1 nu2 nu3 nla
    have su2 := same_upd (o := HO.lst [.str "order", .str "0", .str "1", .str "0", .str "2", .str "1"]) nu2
    have hu2 := (upd_same : (L2.upd Ca1 u2 (.lst [.str "order", .str "0", .str "1", .str "0", .str "2", .str "1"])) u2 = _)
    generalize (L2.upd Ca1 u2 (.lst [.str "order", .str "0", .str "1", .str "0", .str "2", .str "1"])) = Ca2 at su2 hu2 nu3 nla
    have su3 := same_upd (o := HO.lst [.str "changes"]) nu3
    have hu3 := (upd_same : (L2.upd Ca2 u3 (.lst [.str "changes"])) u3 = _)
    generalize (L2.upd Ca2 u3 (.lst [.str "changes"])) = Ca3 at su3 hu3 nla
    have sla := same_upd (o := HO.lst [.ref u1, .ref u2, .ref u3]) nla
    have hla := (upd_same : (L2.upd Ca3 la (.lst [.ref u1, .ref u2, .ref u3])) la = _)
    generalize (L2.upd Ca3 la (.lst [.ref u1, .ref u2, .ref u3])) = Ca4 at sla hla
    have J0 : J27A d Pt qL la first27 Ca4 := ⟨D1.but (su1.trans (su2.trans (su3.trans sla))), tabs_same T1 (su1.trans (su2.trans (su3.trans sla))), (D1.but (su1.trans (su2.trans su3))).free nla, _, hla, .cons ⟨u1, rfl, D1.free nu1, (ne_of_none ((su2.trans su3) _ _ hu1) nla), (su2.trans (su3.trans sla)) _ _ hu1⟩ (.cons ⟨u2, rfl, (D1.but su1).free nu2, (ne_of_none (su3 _ _ hu2) nla), (su3.trans sla) _ _ hu2⟩ (.cons ⟨u3, rfl, (D1.but (su1.trans su2)).free nu3, (ne_of_none hu3 nla), sla _ _ hu3⟩ .nil))⟩
    clear su1 su2 su3 sla hu1 hu2 hu3 hla nu1 nu2 nu3 nla D1 T1
    -- lines of operations
    refine ⟨_, rfl, d, 5, rfl, J0.D, by decide, by decide, fun H9 n hn b9 D9 => ⟨((n : Nat) : Int), rfl, by omega, by omega, ?_⟩⟩
    have J9 := J0.butD b9 D9
    clear b9 D9 J0
    refine for_range (lo := 0) (n := ((n : Nat) : Int).toNat) (fun i σ H' => ∃ (Ls : List (List Str)) (x3 x4 : Option V), σ = [some (.ref a), some (.ref d), some (.ref la), x3, x4, none, none, none, none, none, none, none, none, none, none, none, none, none] ∧ J27A d Pt qL la Ls H' ∧ LsC WL27 (3 + i) 7 Ls)
      ⟨first27, none, none, rfl, J9, first27_ok⟩ ?_ ?_
    · clear J9
      rintro i σ H1 hi ⟨Ls, x3, x4, rfl, J, Bd⟩
      have i4 : i < 4 := by have : i < ((n : Nat) : Int).toNat := hi; omega
      have l7 := Bd.len
      refine ⟨(by show 6 ≤ sizeLine; decide), fun v1 nv1 => ⟨(by show 2 ≤ sizeLine; decide), fun v2 nv2 => ⟨(by show 3 ≤ sizeLine; decide), fun v3 nv3 => ⟨(by show 2 ≤ sizeLine; decide), fun v4 nv4 => ⟨(by show 4 ≤ sizeLine; decide), fun lb nlb => ?_⟩⟩⟩⟩⟩
      have sv1 := same_upd (o := HO.lst [.str "add", .str "1", .str "2", .str "0", .str "4", .str "9"]) nv1
      have hv1 := (upd_same : (L2.upd H1 v1 (.lst [.str "add", .str "1", .str "2", .str "0", .str "4", .str "9"])) v1 = _)
      generalize (L2.upd H1 v1 (.lst [.str "add", .str "1", .str "2", .str "0", .str "4", .str "9"])) = Cb1 at sv1 hv1 nv2 nv3 nv4 nlb
      have sv2 := same_upd (o := HO.lst [.str "cancel", .str "0"]) nv2
      have hv2 := (upd_same : (L2.upd Cb1 v2 (.lst [.str "cancel", .str "0"])) v2 = _)
      generalize (L2.upd Cb1 v2 (.lst [.str "cancel", .str "0"])) = Cb2 at sv2 hv2 nv3 nv4 nlb
      have sv3 := same_upd (o := HO.lst [.str "prolong", .str "0", .str "3"]) nv3
      have hv3 := (upd_same : (L2.upd Cb2 v3 (.lst [.str "prolong", .str "0", .str "3"])) v3 = _)
      generalize (L2.upd Cb2 v3 (.lst [.str "prolong", .str "0", .str "3"])) = Cb3 at sv3 hv3 nv4 nlb
      have sv4 := same_upd (o := HO.lst [.str "raise", .str "0"]) nv4
      have hv4 := (upd_same : (L2.upd Cb3 v4 (.lst [.str "raise", .str "0"])) v4 = _)
      generalize (L2.upd Cb3 v4 (.lst [.str "raise", .str "0"])) = Cb4 at sv4 hv4 nlb
      have slb := same_upd (o := HO.lst [.ref v1, .ref v2, .ref v3, .ref v4]) nlb
      have hlb := (upd_same : (L2.upd Cb4 lb (.lst [.ref v1, .ref v2, .ref v3, .ref v4])) lb = _)
      generalize (L2.upd Cb4 lb (.lst [.ref v1, .ref v2, .ref v3, .ref v4])) = Cb5 at slb hlb
      have S1 := sv1.trans (sv2.trans (sv3.trans (sv4.trans slb)))
      have J1 := J.same S1
      obtain ⟨us, hus, hP⟩ := J1.L
      refine ⟨_, rfl, .inl ⟨rfl, _, SqL.of hus⟩, ?_⟩
      refine ⟨_, rfl, ?_⟩
      refine ⟨(by show 1 ≤ sizeLine; decide), fun v5 nv5 => ⟨(by show 1 ≤ sizeLine; decide), fun v6 nv6 => ⟨(by show 2 ≤ sizeLine; decide), fun lc nlc => ?_⟩⟩⟩
      have sv5 := same_upd (o := HO.lst [.str "undo"]) nv5
      have hv5 := (upd_same : (L2.upd Cb5 v5 (.lst [.str "undo"])) v5 = _)
      generalize (L2.upd Cb5 v5 (.lst [.str "undo"])) = Cc1 at sv5 hv5 nv6 nlc
      have sv6 := same_upd (o := HO.lst [.str "redo"]) nv6
      have hv6 := (upd_same : (L2.upd Cc1 v6 (.lst [.str "redo"])) v6 = _)
      generalize (L2.upd Cc1 v6 (.lst [.str "redo"])) = Cc2 at sv6 hv6 nlc
      have slc := same_upd (o := HO.lst [.ref v5, .ref v6]) nlc
      have hlc := (upd_same : (L2.upd Cc2 lc (.lst [.ref v5, .ref v6])) lc = _)
      generalize (L2.upd Cc2 lc (.lst [.ref v5, .ref v6])) = Cc3 at slc hlc
      have S2 := sv5.trans (sv6.trans slc)
      refine catL_case (S2 _ _ hlb) hlc (by show 4 + 2 ≤ sizeLine; decide) fun le H3 s3 n3 h3 => ?_
      have S3 := S2.trans s3
      have J3 := J1.same S3
      have fr : ∀ {z : Addr} {Hz : Hp}, Same H1 Hz → Hz z = none → z ≠ d ∧ z ≠ la := fun {z Hz} s nz => ⟨(J.D.but s).free nz, fun e => by
        obtain ⟨us', h', _⟩ := J.L
        rw [e, s _ _ h'] at nz
        cases nz⟩
      have f1 := fr (.refl H1) nv1
      have f2 := fr sv1 nv2
      have f3 := fr (sv1.trans sv2) nv3
      have f4 := fr (sv1.trans (sv2.trans sv3)) nv4
      have f5 := fr S1 nv5
      have f6 := fr (S1.trans sv5) nv6
      have ef := fr (S1.trans S2) n3
      have hO : Paired (LnA d la H3) [.ref v1, .ref v2, .ref v3, .ref v4, .ref v5, .ref v6] opts27 := .cons ⟨v1, rfl, f1.1, f1.2, (sv2.trans (sv3.trans (sv4.trans (slb.trans S3)))) _ _ hv1⟩ (.cons ⟨v2, rfl, f2.1, f2.2, (sv3.trans (sv4.trans (slb.trans S3))) _ _ hv2⟩ (.cons ⟨v3, rfl, f3.1, f3.2, (sv4.trans (slb.trans S3)) _ _ hv3⟩ (.cons ⟨v4, rfl, f4.1, f4.2, (slb.trans S3) _ _ hv4⟩ (.cons ⟨v5, rfl, f5.1, f5.2, (sv6.trans (slc.trans s3)) _ _ hv5⟩ (.cons ⟨v6, rfl, f6.1, f6.2, (slc.trans s3) _ _ hv6⟩ .nil)))))
      clear sv1 sv2 sv3 sv4 slb sv5 sv6 slc s3 hv1 hv2 hv3 hv4 hv5 hv6 hlb hlc f1 f2 f3 f4 f5 f6 nv1 nv2 nv3 nv4 nv5 nv6 nlb nlc fr hP
      refine ⟨_, rfl, d, 6, rfl, J3.D, by decide, by decide, fun H4 r hr6 b4 D4 => ?_⟩
      have J4 := J3.butD b4 D4
      have h4 := b4 _ _ ef.1 h3
      replace hO : Paired (LnA d la H4) _ opts27 := Paired.mapP hO fun _ _ z => z.but b4
      obtain ⟨l, hl⟩ : ∃ l, opts27[r]? = some l := ⟨_, List.getElem?_eq_getElem (show r < opts27.length from hr6)⟩
      obtain ⟨v, hv, hv2⟩ := Paired.get? (i := r) hO hl
      have hv2' := hv2
      obtain ⟨u, rfl, u1, u2, hu0⟩ := hv2'
      refine ⟨le, _, (r : Nat), _, rfl, rfl, SqL.of h4, atI_nat hv, ?_⟩
      have hus4 := b4 _ _ J.nd (S3 _ _ hus)
      have ul : us.length ≤ 7 := by
        obtain ⟨us', h', hP'⟩ := J4.L
        rw [hus4] at h'
        cases h'
        rw [hP'.length]
        omega
      have ho := opts27_ok l (List.mem_of_getElem? hl)
      exact ⟨la, _, _, rfl, rfl, hus4, small1000 (by omega), Ls ++ [l], _, _, rfl, J4.push hus4 hv2, (Bd.push ho.1 ho.2).mono (by omega) (Nat.le_refl _)⟩
    rintro σ H1 ⟨Ls, x3, x4, rfl, J, Bd⟩
    have Bd : LsC WL27 7 7 Ls := Bd.mono (by rw [Int.toNat_natCast]; omega) (Nat.le_refl _)
    clear J9 hn
    refine ⟨fun σ' H' => ∃ (Ls : List (List Str)) (x3 x4 : Option V), σ' = [some (.ref a), some (.ref d), some (.ref la), x3, x4, none, none, none, none, none, none, none, none, none, none, none, none, none] ∧ J27A d Pt qL la Ls H' ∧ LsC WL27 8 7 Ls, ?_, ?_⟩
    · refine ⟨_, rfl, d, 4, rfl, J.D, by decide, by decide, fun H2 r hr b2 D2 => ⟨rfl, _, rfl, ?_⟩⟩
      have J2 := J.butD b2 D2
      clear J b2 D2
      refine ite2 (fun _ => ?_) (fun _ => ⟨Ls, _, _, rfl, J2, Bd.mono (by decide) (Nat.le_refl _)⟩)
      obtain ⟨us, hus, hP⟩ := J2.L
      have ul : us.length ≤ 7 := by rw [hP.length]; exact Bd.len
      clear hP
      refine ⟨_, rfl, .inl ⟨rfl, _, SqL.of hus⟩, (by show 7 ≤ sizeLine; decide), fun u1 n1 => ?_⟩
      have s1 := same_upd (o := HO.lst [.str "add", .str "1", .str "2", .str "0", .str "4", .str "9", .str "1"]) n1
      have h1 := (upd_same : (L2.upd H2 u1 (.lst [.str "add", .str "1", .str "2", .str "0", .str "4", .str "9", .str "1"])) u1 = _)
      generalize (L2.upd H2 u1 (.lst [.str "add", .str "1", .str "2", .str "0", .str "4", .str "9", .str "1"])) = H3 at s1 h1
      refine ⟨(by show 3 ≤ sizeLine; decide), fun u2 n2 => ?_⟩
      have s2 := same_upd (o := HO.lst [.int 5, .int 7, .int 1]) n2
      have h2 := (upd_same : (L2.upd H3 u2 (.lst [.int 5, .int 7, .int 1])) u2 = _)
      generalize (L2.upd H3 u2 (.lst [.int 5, .int 7, .int 1])) = H4 at s2 h2
      have s12 := s1.trans s2
      have J4 := J2.same s12
      have u1d := J2.D.free n1
      have u2d := (J2.D.but s1).free n2
      refine ⟨_, rfl, d, 3, rfl, J4.D, by decide, by decide, fun H5 j hj b5 D5 => ?_⟩
      have J5 := J4.butD b5 D5
      have h1' := b5 _ _ u1d (s2 _ _ h1)
      have h2' := b5 _ _ u2d h2
      have hus5 := b5 _ _ J2.nd (s12 _ _ hus)
      obtain ⟨c, hc⟩ : ∃ c : Nat, ([.int 5, .int 7, .int 1] : List V)[j]? = some (.int (c : Nat)) := by
        match j, hj with
        | 0, _ => exact ⟨5, rfl⟩
        | 1, _ => exact ⟨7, rfl⟩
        | 2, _ => exact ⟨1, rfl⟩
        | r + 3, hz => exact absurd hz (by omega)
      refine ⟨u2, _, (j : Nat), .int (c : Nat), rfl, rfl, SqL.of h2', atI_nat hc, _, rfl, slL_case h1' fun u3 H6 s6 n6 h6 => ?_⟩
      rw [cut_to, show List.take c [.str "add", .str "1", .str "2", .str "0", .str "4", .str "9", .str "1"] = (last27.take c).map V.str by rw [List.map_take]; rfl] at h6
      have J6 := J5.same s6
      have hus6 := s6 _ _ hus5
      refine ⟨la, _, _, rfl, rfl, hus6, small1000 (by omega), Ls ++ [last27.take c], _, _, rfl, J6.push hus6 ⟨u3, rfl, J5.D.free n6, (ne_of_none hus5 n6).symm, h6⟩, Bd.push ?_ fun z hz => last27_ok.2 z (List.mem_of_mem_take hz)⟩
      rw [List.length_take]
      exact Nat.le_trans (Nat.min_le_right _ _) last27_ok.1
    clear J Bd
    rintro σ H1 ⟨Ls, x3, x4, rfl, J, Bd⟩
    -- the words
    refine ⟨(by show 10 ≤ sizeLine; decide), fun wl nwl => ?_⟩
    have s8 := same_upd (o := HO.lst [.str "", .str "07", .str "5", .str "1000", .str "x", .str "changes", .str "undo", .str "order", .str "0", .str "1"]) nwl
    have h8 := (upd_same : (L2.upd H1 wl (.lst [.str "", .str "07", .str "5", .str "1000", .str "x", .str "changes", .str "undo", .str "order", .str "0", .str "1"])) wl = _)
    have wld := J.D.free nwl
    have J8 : J27 d wl Pt qL la Ls (L2.upd H1 wl (.lst [.str "", .str "07", .str "5", .str "1000", .str "x", .str "changes", .str "undo", .str "order", .str "0", .str "1"])) := ⟨J.D.but s8, tabs_same J.T s8, wld, h8, J.toL.same s8⟩
    generalize (L2.upd H1 wl (.lst [.str "", .str "07", .str "5", .str "1000", .str "x", .str "changes", .str "undo", .str "order", .str "0", .str "1"])) = H8 at J8
    clear s8 h8 J nwl wld
    refine ⟨_, rfl, d, 3, rfl, J8.D, by decide, by decide, fun H9 n hn b9 D9 => ⟨((n : Nat) : Int), rfl, by omega, by omega, ?_⟩⟩
    have J9 := J8.butD b9 D9
    have hn2 : n ≤ 2 := by omega
    clear b9 D9 hn J8
    refine for_range (lo := 0) (n := ((n : Nat) : Int).toNat) (fun i σ H' => ∃ (la : Addr) (Ls : List (List Str)) (x3 x4 x6 x7 x8 x9 x10 x11 : Option V), σ = [some (.ref a), some (.ref d), some (.ref la), x3, x4, some (.ref wl), x6, x7, x8, x9, x10, x11, none, none, none, none, none, none] ∧ J27 d wl Pt qL la Ls H' ∧ LsC WL27 (8 + i) (7 + i) Ls)
      ⟨la, Ls, _, _, none, none, none, none, none, none, rfl, J9, Bd⟩ ?_ ?_
    · clear J9 Bd
      rintro i σ H1 hi ⟨la, Ls, x3, x4, x6, x7, x8, x9, x10, x11, rfl, J, Bd⟩
      have hi2 : i < 2 := by have : i < ((n : Nat) : Int).toNat := hi; omega
      clear hi
      obtain ⟨_, us, hus, hP⟩ := id J.L
      have ul := hP.length
      have lpos : 0 < Ls.length := List.length_pos_iff.mpr Bd.ne
      have l5 := Bd.len
      refine ⟨_, rfl, _, rfl, la, us, rfl, .inl (SqL.of hus), d, us.length, rfl, J.D, by omega, by omega, fun H2 k hk b2 D2 => ?_⟩
      have J2 := J.butD b2 D2
      refine ⟨_, rfl, d, 6, rfl, J2.D, by decide, by decide, fun H3 kd hkd b3 D3 => ?_⟩
      have J3 := J2.butD b3 D3
      refine ⟨_, rfl, _, rfl, d, 10, rfl, J3.D, by decide, by decide, fun H4 wi hwi b4 D4 => ?_⟩
      have J4 := J3.butD b4 D4
      obtain ⟨w, hw⟩ : ∃ w, words27[wi]? = some w := ⟨_, List.getElem?_eq_getElem (show wi < words27.length from hwi)⟩
      have wW := words27_WL w (List.mem_of_getElem? hw)
      clear J J2 J3 b2 b3 b4 D2 D3 D4 hus hP
      obtain ⟨_, us4, hus, hP⟩ := id J4.L
      refine ⟨wl, _, (wi : Nat), .str w, rfl, rfl, SqL.of J4.W, atI_nat (by rw [List.getElem?_map, hw]; rfl), ?_⟩
      have kl : k < Ls.length := by omega
      have ek := List.getElem?_eq_getElem kl
      obtain ⟨v, hv, u, rfl, ud, hu0⟩ := Paired.get? (i := k) hP ek
      obtain ⟨lm, lw⟩ := Bd.ln _ (List.mem_of_getElem? ek)
      generalize hlk : Ls[k] = l at ek hu0 lm lw
      refine ⟨_, _, _, rfl, _, rfl, _, rfl, _, rfl, la, _, (k : Nat), _, rfl, rfl, SqL.of hus, atI_nat hv, u, _, rfl, .inl (SqL.of hu0), _, _, rfl, rfl, d, (l.map V.str).length + 1, rfl, J4.D, by omega, by rw [List.length_map]; omega, fun H5 at_ hat b5 D5 => ?_⟩
      have hat : at_ < l.length + 1 := by rw [List.length_map] at hat; exact hat
      have J5 := J4.butD b5 D5
      replace hus := b5 _ _ J4.L.1 hus
      replace hP : Paired (LnD d H5) us4 Ls := Paired.mapP hP fun _ _ z => z.but b5
      replace hu0 := b5 _ _ ud hu0
      clear b5 D5 J4 ul
      have ul := hP.length
      have fin : ∀ (lb : Addr) (Ms : List (List Str)) (y9 y10 y11 : Option V) (H' : Hp), J27 d wl Pt qL lb Ms H' → LsC WL27 (8 + (i + 1)) (7 + (i + 1)) Ms → (fun σ H' => ∃ (la : Addr) (Ls : List (List Str)) (x3 x4 x6 x7 x8 x9 x10 x11 : Option V), σ = [some (.ref a), some (.ref d), some (.ref la), x3, x4, some (.ref wl), x6, x7, x8, x9, x10, x11, none, none, none, none, none, none] ∧ J27 d wl Pt qL la Ls H' ∧ LsC WL27 (8 + (i + 1)) (7 + (i + 1)) Ls : L2.St → Hp → Prop) [some (.ref a), some (.ref d), some (.ref lb), some (.int (k : Nat)), x4, some (.ref wl), some (.int (0 + (i : Int))), some (.int (kd : Nat)), some (.str w), y9, y10, y11, none, none, none, none, none, none] H' :=
        fun lb Ms y9 y10 y11 H' j b => ⟨lb, Ms, _, _, _, _, _, _, _, _, rfl, j, b⟩
      have hcut1 : cutV us4 (some ((k : Nat) + 1 : Int)) none = us4.drop (k + 1) := by
        rw [show ((k : Nat) : Int) + 1 = ((k + 1 : Nat) : Int) by omega]
        exact cut_from
      have u1000 : us4.length ≤ 10 := by omega
      refine if_dec (kd = 0) (fun q z => eq_nat rfl z) (fun c1 => ?_) (fun c1 => ?_)
      · -- a line comes
        refine ⟨_, rfl, _, rfl, _, rfl, lsD_cut (fun l => l.take k) J5.D hus hP cut_to (Paired.take hP _) fun b1 H6 s6 D6 n6 h6 P6 => ?_⟩
        refine ⟨_, rfl, (by show 1 ≤ sizeLine; decide), fun u1 m1 => ⟨(by show 1 ≤ sizeLine; decide), fun b2 m2 => ?_⟩⟩
        have t1 := same_upd (o := HO.lst [.str w]) m1
        have g1 := (upd_same : (L2.upd H6 u1 (.lst [.str w])) u1 = _)
        generalize (L2.upd H6 u1 (.lst [.str w])) = H7 at t1 g1 m2
        have t2 := same_upd (o := HO.lst [.ref u1]) m2
        have g2 := (upd_same : (L2.upd H7 b2 (.lst [.ref u1])) b2 = _)
        generalize (L2.upd H7 b2 (.lst [.ref u1])) = H8 at t2 g2
        have u1d := D6.free m1
        have t12 := t1.trans t2
        refine catL_case (t12 _ _ h6) g2 (Nat.le_of_lt (small1000 (by rw [List.length_take]; show min k us4.length + 1 ≤ 1000; omega))) fun b3 H9 s9 n9 h9 => ?_
        have s69 := s6.trans (t12.trans s9)
        refine ⟨_, rfl, _, rfl, _, rfl, ?_⟩
        unfold tNoPart
        refine lsD_cut (fun l => l.drop k) (J5.D.but s69) (s69 _ _ hus) (Paired.mapP hP fun _ _ z => z.same s69) cut_from (Paired.mapP (Paired.dropK _ hP) fun _ _ z => z.same s69) fun b4 H10 s10 D10 n10 h10 P10 => ?_
        refine catL_case (s10 _ _ h9) h10 (Nat.le_of_lt (small1000 (by rw [List.length_append, List.length_take, List.length_drop]; show min k us4.length + 1 + _ ≤ 1000; omega))) fun b5 H11 s11 n11 h11 => fin _ _ _ _ _ _ ((J5.same (s69.trans (s10.trans s11))).put (Ms := Ls.take k ++ [[w]] ++ Ls.drop k) ⟨D10.free n11, _, h11, Paired.app (Paired.app (Paired.mapP P6 fun _ _ z => z.same (t12.trans (s9.trans (s10.trans s11)))) (.cons ⟨u1, rfl, u1d, (t2.trans (s9.trans (s10.trans s11))) _ _ g1⟩ .nil)) (Paired.mapP P10 fun _ _ z => z.same s11)⟩) ?_
        exact (Bd.put kl (.inl rfl) (by show 1 ≤ _; omega) fun z hz => by rw [List.mem_singleton.mp hz]; exact wW).mono (by omega) (by omega)
      · -- a line is changed
        have kd7 : kd < 6 := hkd
        have rep3 : kd / 3 ≤ 1 := by omega
        refine ⟨_, rfl, _, rfl, la, _, (k : Nat), _, rfl, rfl, SqL.of hus, atI_nat hv, _, rfl, _, rfl, _, _, rfl, rfl, (by show (2 : Int) ≠ 0; decide), _, _, rfl, rfl, _, rfl, ?_⟩
        unfold tNoPart
        refine slL_case hu0 fun b1 H6 s6 n6 h6 => ?_
        rw [show cutV (l.map V.str) (some ((at_ : Nat) + Int.fmod (kd : Nat) 2 : Int)) none = (l.drop (at_ + kd % 2)).map V.str by
          rw [show Int.fmod ((kd : Nat) : Int) 2 = ((kd % 2 : Nat) : Int) from fmod_nat kd 2, show ((at_ : Nat) : Int) + ((kd % 2 : Nat) : Int) = ((at_ + kd % 2 : Nat) : Int) by omega, cut_from, List.map_drop]] at h6
        have J6 := J5.same s6
        replace hus := s6 _ _ hus
        replace hP : Paired (LnD d H6) us4 Ls := Paired.mapP hP fun _ _ z => z.same s6
        replace hu0 := s6 _ _ hu0
        clear J5 s6 n6
        refine ⟨_, rfl, _, rfl, la, _, (k : Nat), _, rfl, rfl, SqL.of hus, atI_nat hv, _, rfl, _, rfl, slL_case hu0 fun b2 H7 s7 n7 h7 => ?_⟩
        rw [show cutV (l.map V.str) none (some ((at_ : Nat) : Int)) = (l.take at_).map V.str by rw [cut_to, List.map_take]] at h7
        refine ⟨_, rfl, (by show 1 ≤ sizeLine; decide), fun c1 m1 => ⟨_, rfl, _, _, rfl, rfl, ⟨by decide, by decide⟩, ?_⟩⟩
        have t1 := same_upd (o := HO.lst [.str w]) m1
        have g1 := (upd_same : (L2.upd H7 c1 (.lst [.str w])) c1 = _)
        generalize (L2.upd H7 c1 (.lst [.str w])) = H8 at t1 g1
        refine ⟨c1, ((kd / 3 : Nat) : Int), _, rfl, congrArg V.int (fdiv_nat kd 3), g1, by omega, by omega, ?_, fun c2 m2 => ?_⟩
        · rw [show (((kd / 3 : Nat) : Int)).toNat = kd / 3 from Int.toNat_natCast _]
          exact Nat.le_of_lt (small1000 (by show 1 * (kd / 3) ≤ 1000; omega))
        rw [show (List.replicate (((kd / 3 : Nat) : Int)).toNat [V.str w]).flatten = (List.replicate (kd / 3) w).map V.str by
          rw [show (((kd / 3 : Nat) : Int)).toNat = kd / 3 from Int.toNat_natCast _]
          generalize kd / 3 = r
          induction r with
          | zero => rfl
          | succ r ih => rw [List.replicate_succ, List.flatten_cons, ih]; rfl]
        have t2 := same_upd (o := HO.lst ((List.replicate (kd / 3) w).map V.str)) m2
        have g2 := (upd_same : (L2.upd H8 c2 (.lst ((List.replicate (kd / 3) w).map V.str))) c2 = _)
        generalize (L2.upd H8 c2 (.lst ((List.replicate (kd / 3) w).map V.str))) = H9 at t2 g2
        have s79 := s7.trans (t1.trans t2)
        refine catL_case ((t1.trans t2) _ _ h7) g2 (Nat.le_of_lt (small1000 (by rw [List.length_map, List.length_map, List.length_take, List.length_replicate]; omega))) fun c3 H10 s10 n10 h10 => ?_
        have s710 := s79.trans s10
        refine ⟨_, rfl, catL_case h10 (s710 _ _ h6) (Nat.le_of_lt (small1000 (by rw [List.length_append, List.length_map, List.length_map, List.length_map, List.length_take, List.length_replicate, List.length_drop]; omega))) fun c4 H11 s11 n11 h11 => ?_⟩
        have ech : (l.take at_).map V.str ++ (List.replicate (kd / 3) w).map V.str ++ (l.drop (at_ + kd % 2)).map V.str = (chgL l at_ (kd % 2) (kd / 3) w).map V.str := by
          unfold chgL
          rw [List.map_append, List.map_append]
        rw [ech] at h11
        have c4d := ((J6.same s710).D).free n11
        have s711 := s710.trans s11
        have J11 := J6.same s711
        replace hus := s711 _ _ hus
        replace hP : Paired (LnD d H11) us4 Ls := Paired.mapP hP fun _ _ z => z.same s711
        clear J6 s7 t1 t2 s79 s10 s710 s11 s711 g1 g2 h6 h7 h10 m1 m2 n7 n10 n11 hu0 ech
        have gn : (chgL l at_ (kd % 2) (kd / 3) w).length ≤ 7 + (i + 1) := Nat.le_trans chgL_len (by omega)
        have gm := chgL_mem (at_ := at_) (c := kd % 2) (r := kd / 3) lw wW
        generalize chgL l at_ (kd % 2) (kd / 3) w = l2 at gn gm h11
        refine ⟨_, rfl, _, rfl, _, rfl, lsD_cut (fun l => l.take k) J11.D hus hP cut_to (Paired.take hP _) fun b1 H6 s6 D6 n6 h6 P6 => ?_⟩
        refine ⟨_, rfl, (by show 1 ≤ sizeLine; decide), fun b2 m2 => ?_⟩
        have t2 := same_upd (o := HO.lst [.ref c4]) m2
        have g2 := (upd_same : (L2.upd H6 b2 (.lst [.ref c4])) b2 = _)
        generalize (L2.upd H6 b2 (.lst [.ref c4])) = H8 at t2 g2
        refine catL_case (t2 _ _ h6) g2 (Nat.le_of_lt (small1000 (by rw [List.length_take]; show min k us4.length + 1 ≤ 1000; omega))) fun b3 H9 s9 n9 h9 => ?_
        have s69 := s6.trans (t2.trans s9)
        refine ⟨_, rfl, _, rfl, _, _, rfl, rfl, _, rfl, ?_⟩
        refine lsD_cut (fun l => l.drop (k + 1)) (J11.D.but s69) (s69 _ _ hus) (Paired.mapP hP fun _ _ z => z.same s69) hcut1 (Paired.mapP (Paired.dropK _ hP) fun _ _ z => z.same s69) fun b4 H10 s10 D10 n10 h10 P10 => ?_
        refine catL_case (s10 _ _ h9) h10 (Nat.le_of_lt (small1000 (by rw [List.length_append, List.length_take, List.length_drop]; show min k us4.length + 1 + _ ≤ 1000; omega))) fun b5 H12 s12 n12 h12 => fin _ _ _ _ _ _ ((J11.same (s69.trans (s10.trans s12))).put (Ms := Ls.take k ++ [l2] ++ Ls.drop (k + 1)) ⟨D10.free n12, _, h12, Paired.app (Paired.app (Paired.mapP P6 fun _ _ z => z.same (t2.trans (s9.trans (s10.trans s12)))) (.cons ⟨c4, rfl, c4d, (s69.trans (s10.trans s12)) _ _ h11⟩ .nil)) (Paired.mapP P10 fun _ _ z => z.same s12)⟩) ?_
        exact ((Bd.mono (Nat.le_refl _) (by omega)).put kl (.inr rfl) gn gm).mono (by omega) (by omega)
    rintro σ H1 ⟨la, Ls, x3, x4, x6, x7, x8, x9, x10, x11, rfl, J, Bd⟩
    have Bd : LsC WL27 10 9 Ls := Bd.mono (by rw [Int.toNat_natCast]; omega) (by rw [Int.toNat_natCast]; omega)
    clear J9 hn2
    -- the text
    obtain ⟨us, hus, hP⟩ := J.L.at
    have T1 := J.T
    have ul := hP.length
    have l10 := Bd.len
    clear J
    refine ⟨⟨_, rfl⟩, _, rfl, la, rfl, ⟨_, SqL.of hus⟩, fun D nD => ?_⟩
    refine lc_list (K := K) (a := la) (xs := us) (fun k H' => Same H1 H' ∧ H' D = some (.lst (((Ls.take k).map lineW).map V.str))) ⟨same_upd nD, upd_same⟩ (fun k H' _ ⟨s', _⟩ => SqL.of (s' _ _ hus)) ?_ ?_
    · rintro k v H' hk ⟨s', hD⟩
      have lt : k < Ls.length := by rw [← ul]; exact (List.getElem?_eq_some_iff.mp hk).1
      have ek := List.getElem?_eq_getElem lt
      obtain ⟨v', hv', u, ev, hu0⟩ := Paired.get? (i := k) hP ek
      obtain rfl : v' = v := Option.some.inj (hv'.symm.trans hk)
      subst ev
      have hm := List.mem_of_getElem? ek
      generalize Ls[k] = l at ek hu0 hm
      refine ⟨rfl, ⟨_, rfl⟩, _, rfl, " ", u, l, rfl, rfl, .inl (SqL.of (s' _ _ hu0)), Nat.le_trans (Bd.lsum hm) (by decide), _, hD, ?_, fun b o e => ?_, ?_⟩
      · rw [List.length_map, List.length_map, List.length_take]
        exact small1000 (by omega)
      · rw [upd_ne (ne_of_none e nD)]
        exact s' _ _ e
      · rw [upd_same, List.take_add_one, ek, List.map_append, List.map_append]
        rfl
    rintro H2 ⟨s2, hD⟩
    rw [ul, List.take_length, ← norm_lines] at hD
    have g9 := Bd.norm
    have nne : Ls.map norm ≠ [] := fun z => Bd.ne (List.map_eq_nil_iff.mp z)
    have nl : (Ls.map norm).length ≤ 10 := by rw [List.length_map]; exact l10
    generalize Ls.map norm = Ns at hD g9 nne nl
    have g : ∀ l ∈ Ns, LnG WL27 l := fun l hl => (g9 l hl).1
    have G : LsG Ns := ⟨nne, by omega, fun l hl => ⟨(g l hl).ne, (g l hl).len, (g l hl).wg⟩⟩
    refine ⟨"\n", D, Ns.map lineW, rfl, rfl, .inl (SqL.of hD), Nat.le_trans G.tsum (by decide), ?_⟩
    rw [show Txt.join "\n" (Ns.map lineW) = textW Ns from rfl]
    have T2 := tabs_same T1 s2
    clear nD hD s2 T1 hus hP ul us Bd l10
    -- its rows
    refine ⟨_, rfl, ⟨_, rfl⟩, textW Ns, "\n", rfl, rfl, rfl, by have := G.tlen; rw [sizeLine_eq]; omega, fun p np => ?_⟩
    rw [G.lines]
    have s3 := same_upd (o := HO.lst ((Ns.map lineW).map V.str)) np
    have hp := (upd_same : (L2.upd H2 p (.lst ((Ns.map lineW).map V.str))) p = _)
    generalize (L2.upd H2 p (.lst ((Ns.map lineW).map V.str))) = H3 at s3 hp
    have T3 := tabs_same T2 s3
    clear T2 s3 np
    have l60 : Ns.length ≤ 60 := by omega
    refine ⟨_, rfl, p, _, rfl, .inl (SqL.of hp), rfl, strs_flat _, _, rfl, ?_⟩
    rw [inV_strs]
    by_cases hC : [("changes" : Str)] ∉ Ns
    · rw [decide_eq_false fun z => hC ((changes_in g).mp z)]
      refine iteT ⟨T3, fun H4 e4 T4 => ?_⟩
      refine ⟨_, rfl, Ns, rfl, nne, l60, g, .inl ⟨fun l hl e => hC (by rw [← e]; exact hl), fun d H5 s5 hd => ?_⟩⟩
      refine ⟨cE 12, 12, rfl, e12, .inr (.inr (.inl ⟨rfl, xc12, xf3, d, Ns.length, rfl, hd, fun u H6 s6 hu => ?_⟩))⟩
      refine text_lit hu (fun q z => ⟨_, rfl, p, _, rfl, .inl (SqL.of (s6 _ _ (s5 _ _ (ExtN.lst e4 hp)))), ?_⟩) fun H7 _ => qz H7
      rw [List.length_map, List.length_map]
      exact z
    have hC : [("changes" : Str)] ∈ Ns := Classical.not_not.mp hC
    rw [decide_eq_true ((changes_in g).mpr hC)]
    refine iteF ?_
    obtain ⟨m, hm, hlt⟩ := first_changes hC
    have ml : m < Ns.length := (List.getElem?_eq_some_iff.mp hm).1
    have at1 : ((Ns.map lineW).map V.str)[m]? = some (.str "changes") := by
      rw [List.getElem?_map, List.getElem?_map, hm]
      show some (V.str (lineW [("changes" : Str)])) = _
      rw [(line_changes (g _ hC)).mpr rfl]
    refine ⟨_, rfl, .inl ⟨rfl, _, SqL.of hp⟩, p, _, .str "changes", m, .str "changes", rfl, rfl, SqL.of hp, rfl, strs_flat _, at1, by rw [eqV_str, decide_eq_true rfl], fun n z lt hz => ?_, ?_⟩
    · rw [List.getElem?_map, List.getElem?_map] at hz
      obtain ⟨y, hy, rfl⟩ := Option.map_eq_some_iff.mp hz
      obtain ⟨l, hl, rfl⟩ := Option.map_eq_some_iff.mp hy
      rw [eqV_str]
      exact decide_eq_false fun e => hlt n l lt hl ((line_changes (g l (List.mem_of_getElem? hl))).mp e)
    -- the text of the net
    refine ⟨⟨_, rfl⟩, _, rfl, _, rfl, _, rfl, p, _, rfl, SqL.of hp, fun c nc => ?_⟩
    rw [show cutV ((Ns.map lineW).map V.str) none (some ((m : Nat) : Int)) = ((Ns.take m).map lineW).map V.str by rw [cut_to, List.map_take, List.map_take]]
    have s4 := same_upd (o := HO.lst (((Ns.take m).map lineW).map V.str)) nc
    have hcc := (upd_same : (L2.upd H3 c (.lst (((Ns.take m).map lineW).map V.str))) c = _)
    generalize (L2.upd H3 c (.lst (((Ns.take m).map lineW).map V.str))) = H4 at s4 hcc
    refine ⟨"\n", c, _, rfl, rfl, .inl (SqL.of hcc), ?_, ?_⟩
    · have h4 : (((Ns.take m).map lineW).map (·.length)).sum ≤ (((Ns.take m).map lineW).map (·.length)).length * 440 := sum_le_mul fun x hx => by
        obtain ⟨w, hw, rfl⟩ := List.mem_map.mp hx
        obtain ⟨l, hl, rfl⟩ := List.mem_map.mp hw
        exact (g l (List.mem_of_mem_take hl)).llen
      rw [List.length_map, List.length_map, List.length_take] at h4
      rw [len_nl, List.length_map, List.length_take]
      omega
    have hp4 := s4 _ _ hp
    have T4 := tabs_same T3 s4
    clear T3 s4 hp hcc nc at1 H3
    have GH := headL_ok g ml l60
    have eh := headL_text Ns m
    rw [← eh]
    rcases head_cases (K := K) (C := C) (DT := cE 12) (N := cE 11) GH (by unfold headL; by_cases c : m = 0 <;> simp [c] <;> omega) with ⟨p', h', os, et, nok, hne⟩ | ⟨k, hk⟩ | ⟨part, i, hpo, hbad⟩
    rotate_left
    · -- a line of the net's text is wrong
      refine ⟨T4, fun H5 e5 T5 => ⟨rfl, _, rfl, .inr (hk H5 _ _ fun d H6 s6 hd => ⟨cE 12, 12, rfl, e12, .inr (.inr (.inl ⟨rfl, xc12, xf3, d, k, rfl, hd, fun u H7 s7 hu => ?_⟩))⟩)⟩⟩
      refine ⟨_, rfl, rfl, _, rfl, iteT ⟨tabs_same T5 (s6.trans s7), fun H8 e8 T8 => ⟨_, rfl, Ns, rfl, nne, l60, g, .inr ⟨m, hm, hlt, .inl fun H9 Q9 s9 => ?_⟩⟩⟩⟩
      rw [← eh]
      exact hk H9 Q9 _ fun d H10 s10 hd => ⟨cE 12, 12, rfl, e12, .inr (.inr (.inl ⟨rfl, xc12, xf3, d, k, rfl, hd, fun u2 H11 s11 hu2 => ⟨_, rfl, pair_same textD_sh hu2 (s11 _ _ (s10 _ _ (s9 _ _ (ExtN.tk e8 _ _ hu)))) (qz _)⟩⟩))⟩
    · -- a part of the net is wrong
      refine ⟨T4, fun H5 e5 T5 => ⟨rfl, _, rfl, .inr (hbad H5 _ _ fun d H6 s6 hd => ⟨cE 11, 11, rfl, e11, .inr (.inl ⟨rfl, xc11, xf1, xf2, d, part, i, rfl, hd, fun u v H7 s7 hv hu => ?_⟩)⟩)⟩⟩
      refine ⟨_, rfl, rfl, _, rfl, iteT ⟨tabs_same T5 (s6.trans s7), fun H8 e8 T8 => ⟨_, rfl, Ns, rfl, nne, l60, g, .inr ⟨m, hm, hlt, .inl fun H9 Q9 s9 => ?_⟩⟩⟩⟩
      rw [← eh]
      exact hbad H9 Q9 _ fun d H10 s10 hd => ⟨cE 11, 11, rfl, e11, .inr (.inl ⟨rfl, xc11, xf1, xf2, d, part, i, rfl, hd, fun u2 v2 H11 s11 hv2 hu2 => ⟨_, rfl, net_same hpo hu2 hv2 (s11 _ _ (s10 _ _ (s9 _ _ (ExtN.tk e8 _ _ hu)))) (s11 _ _ (s10 _ _ (s9 _ _ (ExtN.tk e8 _ _ hv)))) (qz _)⟩⟩)⟩
    · -- a net
      refine ⟨T4, fun H5 e5 T5 => ⟨rfl, _, rfl, .inl ⟨p', h', os, by rw [et], nok, fun H6 x t F s6 nF N6 => ⟨_, rfl, rfl, _, rfl, iteF ?_⟩⟩⟩⟩
      have T6 := tabs_same T5 s6
      have hp6 := s6 _ _ (ExtN.lst e5 hp4)
      clear T4 T5 s6 nF N6 hp4 e5
      refine ⟨(by show 0 ≤ sizeLine; decide), fun ol nol => ?_⟩
      have s7 := same_upd (o := HO.lst []) nol
      have hol := (upd_same : (L2.upd H6 ol (.lst [])) ol = _)
      have hp7 := s7 _ _ hp6
      have T7 := tabs_same T6 s7
      have olp : ol ≠ p := fun z => by rw [z, hp6] at nol; cases nol
      generalize (L2.upd H6 ol (.lst [])) = H7 at hol hp7 T7
      clear T6 s7 hp6 nol H6
      have lr : ((Ns.map lineW).map V.str).length = Ns.length := by rw [List.length_map, List.length_map]
      refine ⟨_, rfl, _, _, rfl, rfl, _, rfl, p, _, rfl, .inl (SqL.of hp7), ((m : Nat) : Int) + 1, ((((Ns.map lineW).map V.str).length : Nat) : Int), rfl, ⟨by omega, by omega, by omega, by omega⟩, ?_⟩
      refine for_range (lo := ((m : Nat) : Int) + 1) (n := (((((Ns.map lineW).map V.str).length : Nat) : Int) - (((m : Nat) : Int) + 1)).toNat) (fun i σ H' => ∃ (x3' : Option V), σ = [some (.ref a), some (.ref d), some (.ref la), x3', x4, some (.ref wl), x6, x7, x8, x9, x10, x11, some (.ref p), some (.int (m : Nat)), some .non, some (.str (textW (headL Ns m))), some (.ref ol), some (.str (textW Ns))] ∧ Tabs [(Pt, qL)] H' ∧ H' p = some (.lst ((Ns.map lineW).map V.str)) ∧ OpsAt H' ol (opsW ((Ns.drop (m + 1)).take i)) ∧ ∀ l' ∈ (Ns.drop (m + 1)).take i, (opW l').isSome = true)
        ⟨x3, rfl, T7, hp7, ⟨[], hol, .nil⟩, fun l' h => by cases h⟩ ?_ ?_
      · clear T7 hp7 hol
        rintro i σ H1 hi ⟨x3', rfl, T1, hp1, ⟨xs, hol1, hX⟩, hsome⟩
        have hi : i < (((((Ns.map lineW).map V.str).length : Nat) : Int) - (((m : Nat) : Int) + 1)).toNat := hi
        have li : m + 1 + i < Ns.length := by omega
        have ek := List.getElem?_eq_getElem li
        generalize Ns[m + 1 + i] = l at ek
        have hlm := List.mem_of_getElem? ek
        have gl := g l hlm
        have ed : (Ns.drop (m + 1))[i]? = some l := by rw [List.getElem?_drop]; exact ek
        rw [show ((m : Nat) : Int) + 1 + ((i : Nat) : Int) = ((m + 1 + i : Nat) : Int) by omega]
        have et1 : (Ns.drop (m + 1)).take (i + 1) = (Ns.drop (m + 1)).take i ++ [l] := by rw [List.take_add_one, ed]; rfl
        have xl := hX.length
        have ol2 : (opsW ((Ns.drop (m + 1)).take i)).length ≤ 60 := Nat.le_trans (List.length_filterMap_le _ _) (by rw [List.length_take, List.length_drop]; omega)
        refine ⟨_, rfl, .inl ⟨rfl, _, SqL.of hol1⟩, ?_⟩
        refine ⟨_, rfl, _, rfl, p, _, ((m + 1 + i : Nat) : Int), .str (lineW l), rfl, rfl, SqL.of hp1, atI_nat (by rw [List.getElem?_map, List.getElem?_map, ek]; rfl), ⟨_, rfl⟩, lineW l, " ", rfl, rfl, rfl, by have := gl.llen; rw [sizeLine_eq]; omega, fun u nu => ?_⟩
        rw [gl.line]
        have s2 := same_upd (o := HO.lst (l.map V.str)) nu
        have hu2 := (upd_same : (L2.upd H1 u (.lst (l.map V.str))) u = _)
        generalize (L2.upd H1 u (.lst (l.map V.str))) = H2 at s2 hu2
        refine ⟨u, l, rfl, hu2, gl, (g9 l hlm).2, fun H3 v s3 hv => ?_⟩
        have s23 := s2.trans s3
        have hol3 := s23 _ _ hol1
        have hp3 := s23 _ _ hp1
        have T3 := tabs_same T1 s23
        refine ⟨ol, _, _, rfl, rfl, hol3, small1000 (by omega), ?_⟩
        have b4 : But ol H3 (L2.upd H3 ol (.lst (xs ++ [v]))) := .upd
        have h4 := (upd_same : (L2.upd H3 ol (.lst (xs ++ [v]))) ol = _)
        have k4 := TupKeep.lst (o := HO.lst (xs ++ [v])) hol3
        have T4 := tabs_butL T3 b4 hol3
        have hp4 := b4 _ _ olp.symm hp3
        generalize (L2.upd H3 ol (.lst (xs ++ [v]))) = H4 at b4 h4 k4 T4 hp4
        refine ⟨_, rfl, _, rfl, ol, _, -1, v, rfl, rfl, SqL.of h4, atI_last _ _, ?_⟩
        cases eo : opW l with
        | none =>
          rw [eo] at hv
          have hv : v = .non := hv
          subst hv
          refine ⟨rfl, _, rfl, iteT ⟨T4, fun H5 e5 T5 => ⟨_, rfl, Ns, rfl, nne, l60, g, .inr ⟨m, hm, hlt, .inr ⟨p', h', os, by rw [← eh]; exact et, nok, .inl ⟨i, l, ed, eo, hsome, fun d H6 s6 hd => ?_⟩⟩⟩⟩⟩⟩
          refine ⟨cE 12, 12, rfl, e12, .inr (.inr (.inl ⟨rfl, xc12, xf3, d, m + 1 + i, rfl, hd, fun u H7 s7 hu => ?_⟩))⟩
          exact text_lit hu (fun q z => ⟨_, rfl, z⟩) fun H8 _ => qz H8
        | some op =>
          rw [eo] at hv
          obtain ⟨b, rfl, hb⟩ := hv
          refine ⟨rfl, _, rfl, iteF ⟨_, rfl, T4, hp4, ⟨_, h4, ?_⟩, fun l' hl' => ?_⟩⟩
          · rw [et1]
            unfold opsW
            rw [List.filterMap_append, show [l].filterMap opW = [op] by simp [eo]]
            exact Paired.snoc (Paired.mapP hX fun _ _ ⟨z, e, hz⟩ => ⟨z, e, (hz.keep (tk_of s23)).keep k4⟩) ⟨b, rfl, hb.keep k4⟩
          · rw [et1] at hl'
            rcases List.mem_append.mp hl' with z | z
            · exact hsome l' z
            · obtain rfl := List.mem_singleton.mp z
              rw [eo]
              rfl
      rintro σ H1 ⟨x3', rfl, T1, hp1, hO, hall⟩
      have etl : (Ns.drop (m + 1)).take (((((Ns.map lineW).map V.str).length : Nat) : Int) - (((m : Nat) : Int) + 1)).toNat = Ns.drop (m + 1) := List.take_of_length_le (by rw [List.length_drop]; omega)
      rw [etl] at hO hall
      clear etl T7 hp7 hol
      have hol1 : ∃ xs, H1 ol = some (.lst xs) ∧ OpnsX H1 xs (opsW (Ns.drop (m + 1))) := hO
      have len : (opsW (Ns.drop (m + 1))).length ≤ 100 := Nat.le_trans (List.length_filterMap_le _ _) (by rw [List.length_drop]; omega)
      have sm := (opsW_lines (fun l hl => g l (List.mem_of_mem_drop hl)) hall).2
      have et' : Txt.join "\n" ((Ns.take m).map lineW) = textOf p' h' os := by rw [← eh]; exact et
      refine ⟨T1, fun H2 e2 T2 => ?_⟩
      have hO2 := hO.keep (ExtN.tk e2) fun _ e => ExtN.lst e2 e
      refine ⟨rfl, rfl, _, rfl, p', h', os, by rw [et], nok, fun H3 x t F s3 nF N3 => ⟨_, rfl, ?_⟩⟩
      have hO3 := hO2.keep (tk_of s3) fun _ e => s3 _ _ e
      have T3 := tabs_same T2 s3
      rcases sess_cases nok (opsW (Ns.drop (m + 1))) with go | ⟨k, stp⟩
      · refine .inl ⟨x, ol, t, p', h', os, F, _, rfl, N3, hO3, len, fun sn => go x t F sn, fun H4 o sn s4 _ _ _ _ => ⟨_, rfl, rfl, _, rfl, iteF ?_⟩⟩
        have hO4 := hO3.keep (tk_of s4) fun _ e => s4 _ _ e
        have m1 : 0 < m := by
          rcases Nat.eq_zero_or_pos m with z | z
          · exact absurd (by unfold headL; rw [if_pos z]) hne
          · exact z
        refine ⟨_, rfl, p', h', os, opsW (Ns.drop (m + 1)), by rw [sess_back g hm m1 et' hall]; rfl, nok, len, go, sm, fun H5 r l s5 nr nl hr hl => ?_⟩
        have hO5 := hO4.keep (tk_of s5) fun _ e => s5 _ _ e
        refine ⟨_, rfl, _, rfl, (by show 2 ≤ sizeLine; decide), fun z nz => ?_⟩
        rw [et]
        have s6 := same_upd (o := HO.tup [.str (textOf p' h' os), .ref ol]) nz
        have hz := (upd_same : (L2.upd H5 z (.tup [.str (textOf p' h' os), .ref ol])) z = _)
        generalize (L2.upd H5 z (.tup [.str (textOf p' h' os), .ref ol])) = H6 at s6 hz
        obtain ⟨xs, hx1, hx2⟩ := hl.keep (tk_of s6) fun _ e => s6 _ _ e
        obtain ⟨ys, hy1, hy2⟩ := hO5.keep (tk_of s6) fun _ e => s6 _ _ e
        exact ⟨_, _, rfl, .inr (.inl ⟨r, z, _, _, rfl, rfl, s6 _ _ hr, hz, by show 2 ≤ 1000; decide, .cons (Eqv.flat rfl (.inr (.inr (.inr ⟨_, rfl⟩)))) (.cons (.inr (.inr ⟨l, ol, xs, ys, rfl, rfl, hx1, hy1, by rw [hx2.length]; omega, ops_eqv27 hx2 hy2⟩)) .nil)⟩), fun H7 _ => qz H7⟩
      · refine .inr ⟨x, ol, t, p', h', os, F, _, k, rfl, N3, hO3, len, nok, stp, fun d H4 s4 hd => ⟨cE 14, 14, rfl, e14, .inr (.inr (.inr ⟨.inr rfl, xc14, xf4, d, k, rfl, hd, fun u H5 s5 hu => ?_⟩))⟩⟩
        refine ⟨_, rfl, rfl, _, rfl, iteT ⟨tabs_same T3 (s4.trans s5), fun H6 e6 T6 => ⟨_, rfl, Ns, rfl, nne, l60, g, .inr ⟨m, hm, hlt, .inr ⟨p', h', os, et', nok, .inr ⟨hall, k, stp, fun d H7 s7 hd => ?_⟩⟩⟩⟩⟩⟩
        exact ⟨cE 14, 14, rfl, e14, .inr (.inr (.inr ⟨.inr rfl, xc14, xf4, d, k, rfl, hd, fun u2 H8 s8 hu2 => ⟨_, rfl, pair_same opD_sh hu2 (s8 _ _ (s7 _ _ (ExtN.tk e6 _ _ hu))) (qz _)⟩⟩))⟩
end
set_option maxHeartbeats 0 in
theorem all_mk {l : PySem.W.OpenLaw} {w : World} {K : PySem.W.Frag} {h : Heap} {mg : Str → Option Value} {fa : Addr} (X : K.In h) (G : h.Ns mainGlobals mg) (hfa : mg "law" = some (.ref fa)) (own : LamX.OwnTab K fa h)
    {C_Net : Addr}
    {C_Office : Addr}
    {cL PL : Addr} {ecL : Value} {dcL : Option Addr} {vsL : Array Value} {slcL : Array (Option Value)}
    {f1 : Addr} {od1 an1 : Option Addr} {sl1 : Array (Option Value)} {oc1 kV1 dc1 pm1 cd1 ct1 : Value}
    {f2 : Addr} {od2 an2 : Option Addr} {sl2 : Array (Option Value)} {oc2 kV2 dc2 pm2 cd2 ct2 : Value}
    {f3 : Addr} {od3 an3 : Option Addr} {sl3 : Array (Option Value)} {oc3 kV3 dc3 pm3 cd3 ct3 : Value}
    {f4 : Addr} {od4 an4 : Option Addr} {sl4 : Array (Option Value)} {oc4 kV4 dc4 pm4 cd4 ct4 : Value}
    {f5 : Addr} {od5 an5 : Option Addr} {sl5 : Array (Option Value)} {oc5 kV5 dc5 pm5 cd5 ct5 : Value}
    {f6 : Addr} {od6 an6 : Option Addr} {sl6 : Array (Option Value)} {oc6 kV6 dc6 pm6 cd6 ct6 : Value}
    {f7 : Addr} {od7 an7 : Option Addr} {sl7 : Array (Option Value)} {oc7 kV7 dc7 pm7 cd7 ct7 : Value}
    {f8 : Addr} {od8 an8 : Option Addr} {sl8 : Array (Option Value)} {oc8 kV8 dc8 pm8 cd8 ct8 : Value}
    {f9 : Addr} {od9 an9 : Option Addr} {sl9 : Array (Option Value)} {oc9 kV9 dc9 pm9 cd9 ct9 : Value}
    {f10 : Addr} {od10 an10 : Option Addr} {sl10 : Array (Option Value)} {oc10 kV10 dc10 pm10 cd10 ct10 : Value}
    {f11 : Addr} {od11 an11 : Option Addr} {sl11 : Array (Option Value)} {oc11 kV11 dc11 pm11 cd11 ct11 : Value}
    {f12 : Addr} {od12 an12 : Option Addr} {sl12 : Array (Option Value)} {oc12 kV12 dc12 pm12 cd12 ct12 : Value}
    {f13 : Addr} {od13 an13 : Option Addr} {sl13 : Array (Option Value)} {oc13 kV13 dc13 pm13 cd13 ct13 : Value}
    {f14 : Addr} {od14 an14 : Option Addr} {sl14 : Array (Option Value)} {oc14 kV14 dc14 pm14 cd14 ct14 : Value}
    {f15 : Addr} {od15 an15 : Option Addr} {sl15 : Array (Option Value)} {oc15 kV15 dc15 pm15 cd15 ct15 : Value}
    {f16 : Addr} {od16 an16 : Option Addr} {sl16 : Array (Option Value)} {oc16 kV16 dc16 pm16 cd16 ct16 : Value}
    {f17 : Addr} {od17 an17 : Option Addr} {sl17 : Array (Option Value)} {oc17 kV17 dc17 pm17 cd17 ct17 : Value}
    {f18 : Addr} {od18 an18 : Option Addr} {sl18 : Array (Option Value)} {oc18 kV18 dc18 pm18 cd18 ct18 : Value}
    {f19 : Addr} {od19 an19 : Option Addr} {sl19 : Array (Option Value)} {oc19 kV19 dc19 pm19 cd19 ct19 : Value}
    {f20 : Addr} {od20 an20 : Option Addr} {sl20 : Array (Option Value)} {oc20 kV20 dc20 pm20 cd20 ct20 : Value}
    {f21 : Addr} {od21 an21 : Option Addr} {sl21 : Array (Option Value)} {oc21 kV21 dc21 pm21 cd21 ct21 : Value}
    {f22 : Addr} {od22 an22 : Option Addr} {sl22 : Array (Option Value)} {oc22 kV22 dc22 pm22 ct22 : Value}
    {f23 : Addr} {od23 an23 : Option Addr} {sl23 : Array (Option Value)} {oc23 kV23 dc23 pm23 cd23 ct23 : Value}
    {f24 : Addr} {od24 an24 : Option Addr} {sl24 : Array (Option Value)} {oc24 kV24 dc24 pm24 cd24 ct24 : Value}
    {p24 : Addr} {pr24 : List Value}
    {f25 : Addr} {od25 an25 : Option Addr} {sl25 : Array (Option Value)} {oc25 kV25 dc25 pm25 cd25 ct25 : Value}
    {f26 : Addr} {od26 an26 : Option Addr} {sl26 : Array (Option Value)} {oc26 kV26 dc26 pm26 cd26 ct26 : Value}
    {p26 : Addr} {pr26 : List Value}
    {f27 : Addr} {od27 an27 : Option Addr} {sl27 : Array (Option Value)} {oc27 kV27 dc27 pm27 cd27 ct27 : Value}
    {f28 : Addr} {od28 an28 : Option Addr} {sl28 : Array (Option Value)} {oc28 kV28 dc28 pm28 cd28 ct28 : Value}
    {f29 : Addr} {od29 an29 : Option Addr} {sl29 : Array (Option Value)} {oc29 kV29 dc29 pm29 cd29 ct29 : Value}
    {f30 : Addr} {od30 an30 : Option Addr} {sl30 : Array (Option Value)} {oc30 kV30 dc30 pm30 cd30 ct30 : Value}
    {f31 : Addr} {od31 an31 : Option Addr} {sl31 : Array (Option Value)} {oc31 kV31 dc31 pm31 cd31 ct31 : Value}
    {f32 : Addr} {od32 an32 : Option Addr} {sl32 : Array (Option Value)} {oc32 kV32 dc32 pm32 cd32 ct32 : Value}
    {f33 : Addr} {od33 an33 : Option Addr} {sl33 : Array (Option Value)} {oc33 kV33 dc33 pm33 cd33 ct33 : Value}
    {f34 : Addr} {od34 an34 : Option Addr} {sl34 : Array (Option Value)} {oc34 kV34 dc34 pm34 cd34 ct34 : Value}
    {f35 : Addr} {od35 an35 : Option Addr} {sl35 : Array (Option Value)} {oc35 kV35 dc35 pm35 cd35 ct35 : Value} {p35 : Addr} {pr35 : List Value}
    {f36 : Addr} {od36 an36 : Option Addr} {sl36 : Array (Option Value)} {oc36 kV36 dc36 pm36 cd36 ct36 : Value} {p36 : Addr} {pr36 : List Value}
    {tkLONGEST_PERIOD : Tok}
    {tkMOST_HOUSES : Tok}
    {tkMOST_ORDERS : Tok}
    {tkLONGEST_DELAY : Tok}
    {tkMOST_DIGITS : Tok}
    {d_ARGUMENTS : Addr} {es_ARGUMENTS : Array DictEntry} {n_ARGUMENTS : Nat} {t_ARGUMENTS_0 t_ARGUMENTS_1 t_ARGUMENTS_2 t_ARGUMENTS_3 t_ARGUMENTS_4 t_ARGUMENTS_5 : Tok}
    {d_NUMBERS : Addr} {es_NUMBERS : Array DictEntry} {n_NUMBERS : Nat} {t_NUMBERS_0 t_NUMBERS_1 t_NUMBERS_2 t_NUMBERS_3 t_NUMBERS_4 t_NUMBERS_5 : Tok}
    {CP E0 E1 E2 E3 E4 E5 E6 E7 E8 E9 E10 E11 E12 E13 E14 : Addr}
    {fS11 cdaS11 ccS11 : Addr} {odS11 anS11 cldS11 cddS11 : Option Addr} {slS11 cslS11 ccsS11 : Array (Option Value)} {vsS11 : Array Value} {ocS11 kVS11 dcS11 pmS11 ctS11 clS11 cclS11 : Value} {fileS11 : Str} {tfS11 : Tok}
    {fS12 cdaS12 ccS12 : Addr} {odS12 anS12 cldS12 cddS12 : Option Addr} {slS12 cslS12 ccsS12 : Array (Option Value)} {vsS12 : Array Value} {ocS12 kVS12 dcS12 pmS12 ctS12 clS12 cclS12 : Value} {fileS12 : Str} {tfS12 : Tok}
    {fS14 cdaS14 ccS14 : Addr} {odS14 anS14 cldS14 cddS14 : Option Addr} {slS14 cslS14 ccsS14 : Array (Option Value)} {vsS14 : Array Value} {ocS14 kVS14 dcS14 pmS14 ctS14 clS14 cclS14 : Value} {fileS14 : Str} {tfS14 : Tok}
    (aCNet : PySem.W.nsIn K mainGlobals "Net" = some (some (.ref C_Net)))
    (aCOffice : PySem.W.nsIn K mainGlobals "Office" = some (some (.ref C_Office)))
    (a1 : PySem.W.nsIn K mainGlobals "is_integer" = some (some (.ref f1)))
    (l1 : K.lookup f1 = some ⟨oc1, od1, .func (PySem.W.fnOf "is_integer" "is_integer" (defArgs s_is_integer) (defBody s_is_integer) (defScope s_is_integer) .none kV1 dc1 pm1 an1 cd1 ct1), sl1⟩)
    (c1 : PySem.W.codeIn K cd1 "is_integer" = true)
    (k1 : PySem.W.keepIn K (.ref f1) = true)
    (a2 : PySem.W.nsIn K mainGlobals "is_within" = some (some (.ref f2)))
    (l2 : K.lookup f2 = some ⟨oc2, od2, .func (PySem.W.fnOf "is_within" "is_within" (defArgs s_is_within) (defBody s_is_within) (defScope s_is_within) .none kV2 dc2 pm2 an2 cd2 ct2), sl2⟩)
    (c2 : PySem.W.codeIn K cd2 "is_within" = true)
    (k2 : PySem.W.keepIn K (.ref f2) = true)
    (a3 : PySem.W.nsIn K mainGlobals "is_order" = some (some (.ref f3)))
    (l3 : K.lookup f3 = some ⟨oc3, od3, .func (PySem.W.fnOf "is_order" "is_order" (defArgs s_is_order) (defBody s_is_order) (defScope s_is_order) .none kV3 dc3 pm3 an3 cd3 ct3), sl3⟩)
    (c3 : PySem.W.codeIn K cd3 "is_order" = true)
    (k3 : PySem.W.keepIn K (.ref f3) = true)
    (a4 : PySem.W.nsIn K mainGlobals "check_orders" = some (some (.ref f4)))
    (l4 : K.lookup f4 = some ⟨oc4, od4, .func (PySem.W.fnOf "check_orders" "check_orders" (defArgs s_check_orders) (defBody s_check_orders) (defScope s_check_orders) .none kV4 dc4 pm4 an4 cd4 ct4), sl4⟩)
    (c4 : PySem.W.codeIn K cd4 "check_orders" = true)
    (k4 : PySem.W.keepIn K (.ref f4) = true)
    (a5 : PySem.W.nsIn K mainGlobals "find_followed" = some (some (.ref f5)))
    (l5 : K.lookup f5 = some ⟨oc5, od5, .func (PySem.W.fnOf "find_followed" "find_followed" (defArgs s_find_followed) (defBody s_find_followed) (defScope s_find_followed) .none kV5 dc5 pm5 an5 cd5 ct5), sl5⟩)
    (c5 : PySem.W.codeIn K cd5 "find_followed" = true)
    (k5 : PySem.W.keepIn K (.ref f5) = true)
    (a6 : PySem.W.nsIn K mainGlobals "_law_random" = some (some (.ref f6)))
    (l6 : K.lookup f6 = some ⟨oc6, od6, .func (PySem.W.fnOf "_law_random" "_law_random" (defArgs s_l_random) (defBody s_l_random) (defScope s_l_random) .none kV6 dc6 pm6 an6 cd6 ct6), sl6⟩)
    (c6 : PySem.W.codeIn K cd6 "_law_random" = true)
    (k6 : PySem.W.keepIn K (.ref f6) = true)
    (a7 : PySem.W.nsIn K mainGlobals "_law_below" = some (some (.ref f7)))
    (l7 : K.lookup f7 = some ⟨oc7, od7, .func (PySem.W.fnOf "_law_below" "_law_below" (defArgs s_l_below) (defBody s_l_below) (defScope s_l_below) .none kV7 dc7 pm7 an7 cd7 ct7), sl7⟩)
    (c7 : PySem.W.codeIn K cd7 "_law_below" = true)
    (k7 : PySem.W.keepIn K (.ref f7) = true)
    (a8 : PySem.W.nsIn K mainGlobals "_law_equal" = some (some (.ref f8)))
    (l8 : K.lookup f8 = some ⟨oc8, od8, .func (PySem.W.fnOf "_law_equal" "_law_equal" (defArgs s_l_equal) (defBody s_l_equal) (defScope s_l_equal) .none kV8 dc8 pm8 an8 cd8 ct8), sl8⟩)
    (c8 : PySem.W.codeIn K cd8 "_law_equal" = true)
    (k8 : PySem.W.keepIn K (.ref f8) = true)
    (a9 : PySem.W.nsIn K mainGlobals "without_order" = some (some (.ref f9)))
    (l9 : K.lookup f9 = some ⟨oc9, od9, .func (PySem.W.fnOf "without_order" "without_order" (defArgs s_without_order) (defBody s_without_order) (defScope s_without_order) .none kV9 dc9 pm9 an9 cd9 ct9), sl9⟩)
    (c9 : PySem.W.codeIn K cd9 "without_order" = true)
    (k9 : PySem.W.keepIn K (.ref f9) = true)
    (a10 : PySem.W.nsIn K mainGlobals "is_numeral" = some (some (.ref f10)))
    (l10 : K.lookup f10 = some ⟨oc10, od10, .func (PySem.W.fnOf "is_numeral" "is_numeral" (defArgs s_is_numeral) (defBody s_is_numeral) (defScope s_is_numeral) .none kV10 dc10 pm10 an10 cd10 ct10), sl10⟩)
    (c10 : PySem.W.codeIn K cd10 "is_numeral" = true)
    (k10 : PySem.W.keepIn K (.ref f10) = true)
    (a11 : PySem.W.nsIn K mainGlobals "read_line" = some (some (.ref f11)))
    (l11 : K.lookup f11 = some ⟨oc11, od11, .func (PySem.W.fnOf "read_line" "read_line" (defArgs s_read_line) (defBody s_read_line) (defScope s_read_line) .none kV11 dc11 pm11 an11 cd11 ct11), sl11⟩)
    (c11 : PySem.W.codeIn K cd11 "read_line" = true)
    (k11 : PySem.W.keepIn K (.ref f11) = true)
    (a12 : PySem.W.nsIn K mainGlobals "read_rows" = some (some (.ref f12)))
    (l12 : K.lookup f12 = some ⟨oc12, od12, .func (PySem.W.fnOf "read_rows" "read_rows" (defArgs s_read_rows) (defBody s_read_rows) (defScope s_read_rows) .none kV12 dc12 pm12 an12 cd12 ct12), sl12⟩)
    (c12 : PySem.W.codeIn K cd12 "read_rows" = true)
    (k12 : PySem.W.keepIn K (.ref f12) = true)
    (a13 : PySem.W.nsIn K mainGlobals "check_index" = some (some (.ref f13)))
    (l13 : K.lookup f13 = some ⟨oc13, od13, .func (PySem.W.fnOf "check_index" "check_index" (defArgs s_check_index) (defBody s_check_index) (defScope s_check_index) .none kV13 dc13 pm13 an13 cd13 ct13), sl13⟩)
    (c13 : PySem.W.codeIn K cd13 "check_index" = true)
    (k13 : PySem.W.keepIn K (.ref f13) = true)
    (a14 : PySem.W.nsIn K mainGlobals "with_order" = some (some (.ref f14)))
    (l14 : K.lookup f14 = some ⟨oc14, od14, .func (PySem.W.fnOf "with_order" "with_order" (defArgs s_with_order) (defBody s_with_order) (defScope s_with_order) .none kV14 dc14 pm14 an14 cd14 ct14), sl14⟩)
    (c14 : PySem.W.codeIn K cd14 "with_order" = true)
    (k14 : PySem.W.keepIn K (.ref f14) = true)
    (a15 : PySem.W.nsIn K mainGlobals "_law_error_of" = some (some (.ref f15)))
    (l15 : K.lookup f15 = some ⟨oc15, od15, .func (PySem.W.fnOf "_law_error_of" "_law_error_of" (defArgs s_l_error_of) (defBody s_l_error_of) (defScope s_l_error_of) .none kV15 dc15 pm15 an15 cd15 ct15), sl15⟩)
    (c15 : PySem.W.codeIn K cd15 "_law_error_of" = true)
    (k15 : PySem.W.keepIn K (.ref f15) = true)
    (a16 : PySem.W.nsIn K mainGlobals "_law_is_number" = some (some (.ref f16)))
    (l16 : K.lookup f16 = some ⟨oc16, od16, .func (PySem.W.fnOf "_law_is_number" "_law_is_number" (defArgs s_l_is_number) (defBody s_l_is_number) (defScope s_l_is_number) .none kV16 dc16 pm16 an16 cd16 ct16), sl16⟩)
    (c16 : PySem.W.codeIn K cd16 "_law_is_number" = true)
    (k16 : PySem.W.keepIn K (.ref f16) = true)
    (a17 : PySem.W.nsIn K mainGlobals "_law_parsed_line" = some (some (.ref f17)))
    (l17 : K.lookup f17 = some ⟨oc17, od17, .func (PySem.W.fnOf "_law_parsed_line" "_law_parsed_line" (defArgs s_l_parsed_line) (defBody s_l_parsed_line) (defScope s_l_parsed_line) .none kV17 dc17 pm17 an17 cd17 ct17), sl17⟩)
    (c17 : PySem.W.codeIn K cd17 "_law_parsed_line" = true)
    (k17 : PySem.W.keepIn K (.ref f17) = true)
    (a18 : PySem.W.nsIn K mainGlobals "is_operation" = some (some (.ref f18)))
    (l18 : K.lookup f18 = some ⟨oc18, od18, .func (PySem.W.fnOf "is_operation" "is_operation" (defArgs s_is_operation) (defBody s_is_operation) (defScope s_is_operation) .none kV18 dc18 pm18 an18 cd18 ct18), sl18⟩)
    (c18 : PySem.W.codeIn K cd18 "is_operation" = true)
    (k18 : PySem.W.keepIn K (.ref f18) = true)
    (a19 : PySem.W.nsIn K mainGlobals "read_operation" = some (some (.ref f19)))
    (l19 : K.lookup f19 = some ⟨oc19, od19, .func (PySem.W.fnOf "read_operation" "read_operation" (defArgs s_read_operation) (defBody s_read_operation) (defScope s_read_operation) .none kV19 dc19 pm19 an19 cd19 ct19), sl19⟩)
    (c19 : PySem.W.codeIn K cd19 "read_operation" = true)
    (k19 : PySem.W.keepIn K (.ref f19) = true)
    (a20 : PySem.W.nsIn K mainGlobals "read_operations" = some (some (.ref f20)))
    (l20 : K.lookup f20 = some ⟨oc20, od20, .func (PySem.W.fnOf "read_operations" "read_operations" (defArgs s_read_operations) (defBody s_read_operations) (defScope s_read_operations) .none kV20 dc20 pm20 an20 cd20 ct20), sl20⟩)
    (c20 : PySem.W.codeIn K cd20 "read_operations" = true)
    (k20 : PySem.W.keepIn K (.ref f20) = true)
    (a21 : PySem.W.nsIn K mainGlobals "parse_session" = some (some (.ref f21)))
    (l21 : K.lookup f21 = some ⟨oc21, od21, .func (PySem.W.fnOf "parse_session" "parse_session" (defArgs s_parse_session) (defBody s_parse_session) (defScope s_parse_session) .none kV21 dc21 pm21 an21 cd21 ct21), sl21⟩)
    (c21 : PySem.W.codeIn K cd21 "parse_session" = true)
    (k21 : PySem.W.keepIn K (.ref f21) = true)
    (a22 : PySem.W.nsIn K mainGlobals "law" = some (some (.ref f22)))
    (l22 : K.lookup f22 = some ⟨oc22, od22, .func (PySem.W.fnOf "law" "law" (defArgs s_law) (defBody s_law) (defScope s_law) .none kV22 dc22 pm22 an22 (.ref cL) ct22), sl22⟩)
    (c22 : PySem.W.codeIn K (.ref cL) "law" = true)
    (k22 : PySem.W.keepIn K (.ref f22) = true)
    (a23 : PySem.W.findIn K (.ref C_Net) "__init__" = some (some (.ref f23)))
    (i23 : PySem.W.isFn K (.ref f23) = true)
    (l23 : K.lookup f23 = some ⟨oc23, od23, .func (PySem.W.fnOf "__init__" "Net.__init__" (defArgs s_Net_init) (defBody s_Net_init) (defScope s_Net_init) .none kV23 dc23 pm23 an23 cd23 ct23), sl23⟩)
    (c23 : PySem.W.codeIn K cd23 "Net.__init__" = true)
    (k23 : PySem.W.keepIn K (.ref f23) = true)
    (a24 : PySem.W.findIn K (.ref C_Net) "text" = some (some (.ref p24)))
    (pg24 : PySem.W.specialIn K (.ref p24) "__get__" = some (some (.builtin "property.__get__")))
    (pt24 : PySem.W.takesIn K (.ref p24) = some true)
    (pc24 : PySem.W.recIn K p24 "property" = some (.ref f24 :: pr24))
    (l24 : K.lookup f24 = some ⟨oc24, od24, .func (PySem.W.fnOf "text" "Net.text" (defArgs s_Net_text) (defBody s_Net_text) (defScope s_Net_text) .none kV24 dc24 pm24 an24 cd24 ct24), sl24⟩)
    (c24 : PySem.W.codeIn K cd24 "Net.text" = true)
    (k24 : PySem.W.keepIn K (.ref f24) = true)
    (a25 : PySem.W.findIn K (.ref C_Office) "__init__" = some (some (.ref f25)))
    (i25 : PySem.W.isFn K (.ref f25) = true)
    (l25 : K.lookup f25 = some ⟨oc25, od25, .func (PySem.W.fnOf "__init__" "Office.__init__" (defArgs s_Office_init) (defBody s_Office_init) (defScope s_Office_init) .none kV25 dc25 pm25 an25 cd25 ct25), sl25⟩)
    (c25 : PySem.W.codeIn K cd25 "Office.__init__" = true)
    (k25 : PySem.W.keepIn K (.ref f25) = true)
    (a26 : PySem.W.findIn K (.ref C_Office) "present_orders" = some (some (.ref p26)))
    (pg26 : PySem.W.specialIn K (.ref p26) "__get__" = some (some (.builtin "property.__get__")))
    (pt26 : PySem.W.takesIn K (.ref p26) = some true)
    (pc26 : PySem.W.recIn K p26 "property" = some (.ref f26 :: pr26))
    (l26 : K.lookup f26 = some ⟨oc26, od26, .func (PySem.W.fnOf "present_orders" "Office.present_orders" (defArgs s_Office_present_orders) (defBody s_Office_present_orders) (defScope s_Office_present_orders) .none kV26 dc26 pm26 an26 cd26 ct26), sl26⟩)
    (c26 : PySem.W.codeIn K cd26 "Office.present_orders" = true)
    (k26 : PySem.W.keepIn K (.ref f26) = true)
    (a27 : PySem.W.findIn K (.ref C_Office) "take_step" = some (some (.ref f27)))
    (i27 : PySem.W.isFn K (.ref f27) = true)
    (l27 : K.lookup f27 = some ⟨oc27, od27, .func (PySem.W.fnOf "take_step" "Office.take_step" (defArgs s_Office_take_step) (defBody s_Office_take_step) (defScope s_Office_take_step) .none kV27 dc27 pm27 an27 cd27 ct27), sl27⟩)
    (c27 : PySem.W.codeIn K cd27 "Office.take_step" = true)
    (k27 : PySem.W.keepIn K (.ref f27) = true)
    (a28 : PySem.W.findIn K (.ref C_Office) "undo" = some (some (.ref f28)))
    (i28 : PySem.W.isFn K (.ref f28) = true)
    (l28 : K.lookup f28 = some ⟨oc28, od28, .func (PySem.W.fnOf "undo" "Office.undo" (defArgs s_Office_undo) (defBody s_Office_undo) (defScope s_Office_undo) .none kV28 dc28 pm28 an28 cd28 ct28), sl28⟩)
    (c28 : PySem.W.codeIn K cd28 "Office.undo" = true)
    (k28 : PySem.W.keepIn K (.ref f28) = true)
    (a29 : PySem.W.findIn K (.ref C_Office) "cancel" = some (some (.ref f29)))
    (i29 : PySem.W.isFn K (.ref f29) = true)
    (l29 : K.lookup f29 = some ⟨oc29, od29, .func (PySem.W.fnOf "cancel" "Office.cancel" (defArgs s_Office_cancel) (defBody s_Office_cancel) (defScope s_Office_cancel) .none kV29 dc29 pm29 an29 cd29 ct29), sl29⟩)
    (c29 : PySem.W.codeIn K cd29 "Office.cancel" = true)
    (k29 : PySem.W.keepIn K (.ref f29) = true)
    (a30 : PySem.W.findIn K (.ref C_Office) "raise_order" = some (some (.ref f30)))
    (i30 : PySem.W.isFn K (.ref f30) = true)
    (l30 : K.lookup f30 = some ⟨oc30, od30, .func (PySem.W.fnOf "raise_order" "Office.raise_order" (defArgs s_Office_raise_order) (defBody s_Office_raise_order) (defScope s_Office_raise_order) .none kV30 dc30 pm30 an30 cd30 ct30), sl30⟩)
    (c30 : PySem.W.codeIn K cd30 "Office.raise_order" = true)
    (k30 : PySem.W.keepIn K (.ref f30) = true)
    (a31 : PySem.W.findIn K (.ref C_Office) "redo" = some (some (.ref f31)))
    (i31 : PySem.W.isFn K (.ref f31) = true)
    (l31 : K.lookup f31 = some ⟨oc31, od31, .func (PySem.W.fnOf "redo" "Office.redo" (defArgs s_Office_redo) (defBody s_Office_redo) (defScope s_Office_redo) .none kV31 dc31 pm31 an31 cd31 ct31), sl31⟩)
    (c31 : PySem.W.codeIn K cd31 "Office.redo" = true)
    (k31 : PySem.W.keepIn K (.ref f31) = true)
    (a32 : PySem.W.findIn K (.ref C_Office) "add" = some (some (.ref f32)))
    (i32 : PySem.W.isFn K (.ref f32) = true)
    (l32 : K.lookup f32 = some ⟨oc32, od32, .func (PySem.W.fnOf "add" "Office.add" (defArgs s_Office_add) (defBody s_Office_add) (defScope s_Office_add) .none kV32 dc32 pm32 an32 cd32 ct32), sl32⟩)
    (c32 : PySem.W.codeIn K cd32 "Office.add" = true)
    (k32 : PySem.W.keepIn K (.ref f32) = true)
    (a33 : PySem.W.findIn K (.ref C_Office) "prolong" = some (some (.ref f33)))
    (i33 : PySem.W.isFn K (.ref f33) = true)
    (l33 : K.lookup f33 = some ⟨oc33, od33, .func (PySem.W.fnOf "prolong" "Office.prolong" (defArgs s_Office_prolong) (defBody s_Office_prolong) (defScope s_Office_prolong) .none kV33 dc33 pm33 an33 cd33 ct33), sl33⟩)
    (c33 : PySem.W.codeIn K cd33 "Office.prolong" = true)
    (k33 : PySem.W.keepIn K (.ref f33) = true)
    (a34 : PySem.W.findIn K (.ref C_Office) "execute" = some (some (.ref f34)))
    (i34 : PySem.W.isFn K (.ref f34) = true)
    (l34 : K.lookup f34 = some ⟨oc34, od34, .func (PySem.W.fnOf "execute" "Office.execute" (defArgs s_Office_execute) (defBody s_Office_execute) (defScope s_Office_execute) .none kV34 dc34 pm34 an34 cd34 ct34), sl34⟩)
    (c34 : PySem.W.codeIn K cd34 "Office.execute" = true)
    (k34 : PySem.W.keepIn K (.ref f34) = true)
    (a35 : PySem.W.findCls K (.ref C_Net) (.type "type") "parse" = some (.get (.builtin "classmethod.__get__") (.ref p35) .none (.ref C_Net)))
    (pc35 : PySem.W.recIn K p35 "classmethod" = some (.ref f35 :: pr35))
    (fi35 : PySem.W.fnIn K f35 = true)
    (l35 : K.lookup f35 = some ⟨oc35, od35, .func (PySem.W.fnOf "parse" "Net.parse" (defArgs s_Net_parse) (defBody s_Net_parse) (defScope s_Net_parse) .none kV35 dc35 pm35 an35 cd35 ct35), sl35⟩)
    (c35 : PySem.W.codeIn K cd35 "Net.parse" = true)
    (k35 : PySem.W.keepIn K (.ref f35) = true)
    (a36 : PySem.W.findCls K (.ref C_Office) (.type "type") "replay" = some (.get (.builtin "classmethod.__get__") (.ref p36) .none (.ref C_Office)))
    (pc36 : PySem.W.recIn K p36 "classmethod" = some (.ref f36 :: pr36))
    (fi36 : PySem.W.fnIn K f36 = true)
    (l36 : K.lookup f36 = some ⟨oc36, od36, .func (PySem.W.fnOf "replay" "Office.replay" (defArgs s_Office_replay) (defBody s_Office_replay) (defScope s_Office_replay) .none kV36 dc36 pm36 an36 cd36 ct36), sl36⟩)
    (c36 : PySem.W.codeIn K cd36 "Office.replay" = true)
    (k36 : PySem.W.keepIn K (.ref f36) = true)
    (rdNet : PySem.W.readsIn K C_Net (.type "type") = true)
    (rgNet : PySem.W.specialIn K (.ref C_Net) "__getattribute__" = some (some (.builtin "type.__getattribute__")))
    (rdOffice : PySem.W.readsIn K C_Office (.type "type") = true)
    (rgOffice : PySem.W.specialIn K (.ref C_Office) "__getattribute__" = some (some (.builtin "type.__getattribute__")))
    (pgNet : PySem.W.plainGet K C_Net Str.empty = true)
    (hdNet : PySem.W.hasDictIn K C_Net = true)
    (poNet : PySem.W.plainOver K C_Net = true)
    (saNet : PySem.W.findIn K (.ref C_Net) "__setattr__" = some (some (.builtin "object.__setattr__")))
    (mkNet : PySem.W.makesIn K C_Net = true)
    (kcNet : PySem.W.keepIn K (.ref C_Net) = true)
    (nNet_period : PySem.W.findIn K (.ref C_Net) "period" = some none)
    (nNet_houses : PySem.W.findIn K (.ref C_Net) "houses" = some none)
    (nNet_orders : PySem.W.findIn K (.ref C_Net) "orders" = some none)
    (nNet_followed : PySem.W.findIn K (.ref C_Net) "followed" = some none)
    (pgOffice : PySem.W.plainGet K C_Office Str.empty = true)
    (hdOffice : PySem.W.hasDictIn K C_Office = true)
    (poOffice : PySem.W.plainOver K C_Office = true)
    (saOffice : PySem.W.findIn K (.ref C_Office) "__setattr__" = some (some (.builtin "object.__setattr__")))
    (mkOffice : PySem.W.makesIn K C_Office = true)
    (kcOffice : PySem.W.keepIn K (.ref C_Office) = true)
    (nOffice_net : PySem.W.findIn K (.ref C_Office) "net" = some none)
    (nOffice_steps : PySem.W.findIn K (.ref C_Office) "steps" = some none)
    (nOffice_effective : PySem.W.findIn K (.ref C_Office) "effective" = some none)
    (nOffice_snapshots : PySem.W.findIn K (.ref C_Office) "snapshots" = some none)
    (vLONGEST_PERIOD : PySem.W.nsIn K mainGlobals "LONGEST_PERIOD" = some (some (.int 30 tkLONGEST_PERIOD)))
    (vMOST_HOUSES : PySem.W.nsIn K mainGlobals "MOST_HOUSES" = some (some (.int 10 tkMOST_HOUSES)))
    (vMOST_ORDERS : PySem.W.nsIn K mainGlobals "MOST_ORDERS" = some (some (.int 20 tkMOST_ORDERS)))
    (vLONGEST_DELAY : PySem.W.nsIn K mainGlobals "LONGEST_DELAY" = some (some (.int 9 tkLONGEST_DELAY)))
    (vMOST_DIGITS : PySem.W.nsIn K mainGlobals "MOST_DIGITS" = some (some (.int 3 tkMOST_DIGITS)))
    (gd_ARGUMENTS : PySem.W.nsIn K mainGlobals "ARGUMENTS" = some (some (.ref d_ARGUMENTS)))
    (ld_ARGUMENTS : K.lookup d_ARGUMENTS = some ⟨.type "dict", none, .dict es_ARGUMENTS n_ARGUMENTS, #[]⟩)
    (kd_ARGUMENTS : PySem.W.KeysLit w.params es_ARGUMENTS.toList)
    (lo_ARGUMENTS : (d_ARGUMENTS == sysModules) = false)
    (vd_ARGUMENTS_0 : PySem.W.nsIn K d_ARGUMENTS "add" = some (some (.int 1 t_ARGUMENTS_0)))
    (vd_ARGUMENTS_1 : PySem.W.nsIn K d_ARGUMENTS "cancel" = some (some (.int 1 t_ARGUMENTS_1)))
    (vd_ARGUMENTS_2 : PySem.W.nsIn K d_ARGUMENTS "prolong" = some (some (.int 2 t_ARGUMENTS_2)))
    (vd_ARGUMENTS_3 : PySem.W.nsIn K d_ARGUMENTS "raise" = some (some (.int 1 t_ARGUMENTS_3)))
    (vd_ARGUMENTS_4 : PySem.W.nsIn K d_ARGUMENTS "undo" = some (some (.int 0 t_ARGUMENTS_4)))
    (vd_ARGUMENTS_5 : PySem.W.nsIn K d_ARGUMENTS "redo" = some (some (.int 0 t_ARGUMENTS_5)))
    (gd_NUMBERS : PySem.W.nsIn K mainGlobals "NUMBERS" = some (some (.ref d_NUMBERS)))
    (ld_NUMBERS : K.lookup d_NUMBERS = some ⟨.type "dict", none, .dict es_NUMBERS n_NUMBERS, #[]⟩)
    (kd_NUMBERS : PySem.W.KeysLit w.params es_NUMBERS.toList)
    (lo_NUMBERS : (d_NUMBERS == sysModules) = false)
    (vd_NUMBERS_0 : PySem.W.nsIn K d_NUMBERS "add" = some (some (.int 5 t_NUMBERS_0)))
    (vd_NUMBERS_1 : PySem.W.nsIn K d_NUMBERS "cancel" = some (some (.int 1 t_NUMBERS_1)))
    (vd_NUMBERS_2 : PySem.W.nsIn K d_NUMBERS "prolong" = some (some (.int 2 t_NUMBERS_2)))
    (vd_NUMBERS_3 : PySem.W.nsIn K d_NUMBERS "raise" = some (some (.int 1 t_NUMBERS_3)))
    (vd_NUMBERS_4 : PySem.W.nsIn K d_NUMBERS "undo" = some (some (.int 0 t_NUMBERS_4)))
    (vd_NUMBERS_5 : PySem.W.nsIn K d_NUMBERS "redo" = some (some (.int 0 t_NUMBERS_5)))
    (vn_NUMBERS_net : PySem.W.nsIn K d_NUMBERS "net" = some none)
    (vn_NUMBERS_4 : PySem.W.nsIn K d_NUMBERS "4" = some none)
    (vn_NUMBERS_3 : PySem.W.nsIn K d_NUMBERS "3" = some none)
    (vn_NUMBERS_order : PySem.W.nsIn K d_NUMBERS "order" = some none)
    (vn_NUMBERS_0 : PySem.W.nsIn K d_NUMBERS "0" = some none)
    (vn_NUMBERS_1 : PySem.W.nsIn K d_NUMBERS "1" = some none)
    (vn_NUMBERS_2 : PySem.W.nsIn K d_NUMBERS "2" = some none)
    (vn_NUMBERS_changes : PySem.W.nsIn K d_NUMBERS "changes" = some none)
    (vn_NUMBERS_9 : PySem.W.nsIn K d_NUMBERS "9" = some none)
    (vn_NUMBERS_ : PySem.W.nsIn K d_NUMBERS "" = some none)
    (vn_NUMBERS_07 : PySem.W.nsIn K d_NUMBERS "07" = some none)
    (vn_NUMBERS_5 : PySem.W.nsIn K d_NUMBERS "5" = some none)
    (vn_NUMBERS_1000 : PySem.W.nsIn K d_NUMBERS "1000" = some none)
    (vn_NUMBERS_x : PySem.W.nsIn K d_NUMBERS "x" = some none)
    (zlen : PySem.W.nsIn K mainGlobals "len" = some none)
    (zrange : PySem.W.nsIn K mainGlobals "range" = some none)
    (zisinstance : PySem.W.nsIn K mainGlobals "isinstance" = some none)
    (zint : PySem.W.nsIn K mainGlobals "int" = some none)
    (zbool : PySem.W.nsIn K mainGlobals "bool" = some none)
    (zstr : PySem.W.nsIn K mainGlobals "str" = some none)
    (ztuple : PySem.W.nsIn K mainGlobals "tuple" = some none)
    (zlist : PySem.W.nsIn K mainGlobals "list" = some none)
    (zall : PySem.W.nsIn K mainGlobals "all" = some none)
    (zabs : PySem.W.nsIn K mainGlobals "abs" = some none)
    (zenumerate : PySem.W.nsIn K mainGlobals "enumerate" = some none)
    (tl : K.lookup cL = some ⟨ecL, dcL, .fields vsL, slcL⟩)
    (t11 : vsL[11]? = some (.ref PL))
    (tP : K.lookup PL = none)
    (th : PySem.W.codeHdIn K cL PL = true)
    (gEP : PySem.W.nsIn K mainGlobals "PostError" = some (some (.ref CP)))
    (iEP : PySem.W.isClsIn K CP = true)
    (tEP : PySem.W.typeIn K (.ref CP) = some (.type "type"))
    (bEP : PySem.W.subIn K (.ref CP) (.type "BaseException") = some true)
    (zVE : PySem.W.nsIn K mainGlobals "ValueError" = some none)
    (gE0 : PySem.W.nsIn K mainGlobals "InvalidDay" = some (some (.ref E0)))
    (iE0 : PySem.W.isClsIn K E0 = true)
    (tE0 : PySem.W.typeIn K (.ref E0) = some (.type "type"))
    (gE1 : PySem.W.nsIn K mainGlobals "UnknownHouse" = some (some (.ref E1)))
    (iE1 : PySem.W.isClsIn K E1 = true)
    (tE1 : PySem.W.typeIn K (.ref E1) = some (.type "type"))
    (gE2 : PySem.W.nsIn K mainGlobals "UnknownOrder" = some (some (.ref E2)))
    (iE2 : PySem.W.isClsIn K E2 = true)
    (tE2 : PySem.W.typeIn K (.ref E2) = some (.type "type"))
    (gE3 : PySem.W.nsIn K mainGlobals "InvalidLimit" = some (some (.ref E3)))
    (iE3 : PySem.W.isClsIn K E3 = true)
    (tE3 : PySem.W.typeIn K (.ref E3) = some (.type "type"))
    (gE4 : PySem.W.nsIn K mainGlobals "InvalidOrder" = some (some (.ref E4)))
    (iE4 : PySem.W.isClsIn K E4 = true)
    (tE4 : PySem.W.typeIn K (.ref E4) = some (.type "type"))
    (gE5 : PySem.W.nsIn K mainGlobals "TooManyOrders" = some (some (.ref E5)))
    (iE5 : PySem.W.isClsIn K E5 = true)
    (tE5 : PySem.W.typeIn K (.ref E5) = some (.type "type"))
    (gE6 : PySem.W.nsIn K mainGlobals "TooLong" = some (some (.ref E6)))
    (iE6 : PySem.W.isClsIn K E6 = true)
    (tE6 : PySem.W.typeIn K (.ref E6) = some (.type "type"))
    (gE7 : PySem.W.nsIn K mainGlobals "InvalidResult" = some (some (.ref E7)))
    (iE7 : PySem.W.isClsIn K E7 = true)
    (tE7 : PySem.W.typeIn K (.ref E7) = some (.type "type"))
    (gE8 : PySem.W.nsIn K mainGlobals "Contradiction" = some (some (.ref E8)))
    (iE8 : PySem.W.isClsIn K E8 = true)
    (tE8 : PySem.W.typeIn K (.ref E8) = some (.type "type"))
    (gE9 : PySem.W.nsIn K mainGlobals "InvalidName" = some (some (.ref E9)))
    (iE9 : PySem.W.isClsIn K E9 = true)
    (tE9 : PySem.W.typeIn K (.ref E9) = some (.type "type"))
    (gE10 : PySem.W.nsIn K mainGlobals "UnknownName" = some (some (.ref E10)))
    (iE10 : PySem.W.isClsIn K E10 = true)
    (tE10 : PySem.W.typeIn K (.ref E10) = some (.type "type"))
    (gE11 : PySem.W.nsIn K mainGlobals "InvalidNet" = some (some (.ref E11)))
    (iE11 : PySem.W.isClsIn K E11 = true)
    (tE11 : PySem.W.typeIn K (.ref E11) = some (.type "type"))
    (gE12 : PySem.W.nsIn K mainGlobals "TextFault" = some (some (.ref E12)))
    (iE12 : PySem.W.isClsIn K E12 = true)
    (tE12 : PySem.W.typeIn K (.ref E12) = some (.type "type"))
    (gE13 : PySem.W.nsIn K mainGlobals "InvalidCode" = some (some (.ref E13)))
    (iE13 : PySem.W.isClsIn K E13 = true)
    (tE13 : PySem.W.typeIn K (.ref E13) = some (.type "type"))
    (gE14 : PySem.W.nsIn K mainGlobals "InvalidOperation" = some (some (.ref E14)))
    (iE14 : PySem.W.isClsIn K E14 = true)
    (tE14 : PySem.W.typeIn K (.ref E14) = some (.type "type"))
    (heN : PySem.W.specialIn K (.builtin "object.__class__") "__get__" = some (some (.builtin "getset_descriptor.__get__")))
    (heT : PySem.W.takesIn K (.builtin "object.__class__") = some true)
    (sE2_0 : PySem.W.subIn K (.ref E2) (.ref E0) = some false)
    (sE2_1 : PySem.W.subIn K (.ref E2) (.ref E1) = some false)
    (sE2_2 : PySem.W.subIn K (.ref E2) (.ref E2) = some true)
    (sE2_3 : PySem.W.subIn K (.ref E2) (.ref E3) = some false)
    (sE2_4 : PySem.W.subIn K (.ref E2) (.ref E4) = some false)
    (sE2_5 : PySem.W.subIn K (.ref E2) (.ref E5) = some false)
    (sE2_6 : PySem.W.subIn K (.ref E2) (.ref E6) = some false)
    (sE2_7 : PySem.W.subIn K (.ref E2) (.ref E7) = some false)
    (sE2_8 : PySem.W.subIn K (.ref E2) (.ref E8) = some false)
    (sE2_9 : PySem.W.subIn K (.ref E2) (.ref E9) = some false)
    (sE2_10 : PySem.W.subIn K (.ref E2) (.ref E10) = some false)
    (sE2_11 : PySem.W.subIn K (.ref E2) (.ref E11) = some false)
    (sE2_12 : PySem.W.subIn K (.ref E2) (.ref E12) = some false)
    (sE2_13 : PySem.W.subIn K (.ref E2) (.ref E13) = some false)
    (sE2_14 : PySem.W.subIn K (.ref E2) (.ref E14) = some false)
    (sE2_P : PySem.W.subIn K (.ref E2) (.ref CP) = some true)
    (bE2 : PySem.W.subIn K (.ref E2) (.type "BaseException") = some true)
    (vE2 : PySem.W.subIn K (.ref E2) (.type "ValueError") = some true)
    (kE2 : PySem.W.keepIn K (.ref E2) = true)
    (h1E2 : PySem.W.findIn K (.ref E2) "__getattribute__" = some (some (.builtin "BaseException.__getattribute__")))
    (h2E2 : PySem.W.findIn K (.ref E2) "__getattr__" = some none)
    (h3E2 : PySem.W.hasDictIn K E2 = true)
    (h4E2 : PySem.W.findIn K (.ref E2) "__class__" = some (some (.builtin "object.__class__")))
    (h5E2 : PySem.W.mroIn K E2 (.type "object") = some true)
    (xE2 : PySem.W.excIn K E2 [.type "ValueError", .type "Exception", .type "BaseException", .type "object"] "ValueError.__new__" = true)
    (sE4_0 : PySem.W.subIn K (.ref E4) (.ref E0) = some false)
    (sE4_1 : PySem.W.subIn K (.ref E4) (.ref E1) = some false)
    (sE4_2 : PySem.W.subIn K (.ref E4) (.ref E2) = some false)
    (sE4_3 : PySem.W.subIn K (.ref E4) (.ref E3) = some false)
    (sE4_4 : PySem.W.subIn K (.ref E4) (.ref E4) = some true)
    (sE4_5 : PySem.W.subIn K (.ref E4) (.ref E5) = some false)
    (sE4_6 : PySem.W.subIn K (.ref E4) (.ref E6) = some false)
    (sE4_7 : PySem.W.subIn K (.ref E4) (.ref E7) = some false)
    (sE4_8 : PySem.W.subIn K (.ref E4) (.ref E8) = some false)
    (sE4_9 : PySem.W.subIn K (.ref E4) (.ref E9) = some false)
    (sE4_10 : PySem.W.subIn K (.ref E4) (.ref E10) = some false)
    (sE4_11 : PySem.W.subIn K (.ref E4) (.ref E11) = some false)
    (sE4_12 : PySem.W.subIn K (.ref E4) (.ref E12) = some false)
    (sE4_13 : PySem.W.subIn K (.ref E4) (.ref E13) = some false)
    (sE4_14 : PySem.W.subIn K (.ref E4) (.ref E14) = some false)
    (sE4_P : PySem.W.subIn K (.ref E4) (.ref CP) = some true)
    (bE4 : PySem.W.subIn K (.ref E4) (.type "BaseException") = some true)
    (vE4 : PySem.W.subIn K (.ref E4) (.type "ValueError") = some true)
    (kE4 : PySem.W.keepIn K (.ref E4) = true)
    (h1E4 : PySem.W.findIn K (.ref E4) "__getattribute__" = some (some (.builtin "BaseException.__getattribute__")))
    (h2E4 : PySem.W.findIn K (.ref E4) "__getattr__" = some none)
    (h3E4 : PySem.W.hasDictIn K E4 = true)
    (h4E4 : PySem.W.findIn K (.ref E4) "__class__" = some (some (.builtin "object.__class__")))
    (h5E4 : PySem.W.mroIn K E4 (.type "object") = some true)
    (xE4 : PySem.W.excIn K E4 [.type "ValueError", .type "Exception", .type "BaseException", .type "object"] "ValueError.__new__" = true)
    (sE5_0 : PySem.W.subIn K (.ref E5) (.ref E0) = some false)
    (sE5_1 : PySem.W.subIn K (.ref E5) (.ref E1) = some false)
    (sE5_2 : PySem.W.subIn K (.ref E5) (.ref E2) = some false)
    (sE5_3 : PySem.W.subIn K (.ref E5) (.ref E3) = some false)
    (sE5_4 : PySem.W.subIn K (.ref E5) (.ref E4) = some false)
    (sE5_5 : PySem.W.subIn K (.ref E5) (.ref E5) = some true)
    (sE5_6 : PySem.W.subIn K (.ref E5) (.ref E6) = some false)
    (sE5_7 : PySem.W.subIn K (.ref E5) (.ref E7) = some false)
    (sE5_8 : PySem.W.subIn K (.ref E5) (.ref E8) = some false)
    (sE5_9 : PySem.W.subIn K (.ref E5) (.ref E9) = some false)
    (sE5_10 : PySem.W.subIn K (.ref E5) (.ref E10) = some false)
    (sE5_11 : PySem.W.subIn K (.ref E5) (.ref E11) = some false)
    (sE5_12 : PySem.W.subIn K (.ref E5) (.ref E12) = some false)
    (sE5_13 : PySem.W.subIn K (.ref E5) (.ref E13) = some false)
    (sE5_14 : PySem.W.subIn K (.ref E5) (.ref E14) = some false)
    (sE5_P : PySem.W.subIn K (.ref E5) (.ref CP) = some true)
    (bE5 : PySem.W.subIn K (.ref E5) (.type "BaseException") = some true)
    (vE5 : PySem.W.subIn K (.ref E5) (.type "ValueError") = some true)
    (kE5 : PySem.W.keepIn K (.ref E5) = true)
    (h1E5 : PySem.W.findIn K (.ref E5) "__getattribute__" = some (some (.builtin "BaseException.__getattribute__")))
    (h2E5 : PySem.W.findIn K (.ref E5) "__getattr__" = some none)
    (h3E5 : PySem.W.hasDictIn K E5 = true)
    (h4E5 : PySem.W.findIn K (.ref E5) "__class__" = some (some (.builtin "object.__class__")))
    (h5E5 : PySem.W.mroIn K E5 (.type "object") = some true)
    (xE5 : PySem.W.excIn K E5 [.type "ValueError", .type "Exception", .type "BaseException", .type "object"] "ValueError.__new__" = true)
    (sE11_0 : PySem.W.subIn K (.ref E11) (.ref E0) = some false)
    (sE11_1 : PySem.W.subIn K (.ref E11) (.ref E1) = some false)
    (sE11_2 : PySem.W.subIn K (.ref E11) (.ref E2) = some false)
    (sE11_3 : PySem.W.subIn K (.ref E11) (.ref E3) = some false)
    (sE11_4 : PySem.W.subIn K (.ref E11) (.ref E4) = some false)
    (sE11_5 : PySem.W.subIn K (.ref E11) (.ref E5) = some false)
    (sE11_6 : PySem.W.subIn K (.ref E11) (.ref E6) = some false)
    (sE11_7 : PySem.W.subIn K (.ref E11) (.ref E7) = some false)
    (sE11_8 : PySem.W.subIn K (.ref E11) (.ref E8) = some false)
    (sE11_9 : PySem.W.subIn K (.ref E11) (.ref E9) = some false)
    (sE11_10 : PySem.W.subIn K (.ref E11) (.ref E10) = some false)
    (sE11_11 : PySem.W.subIn K (.ref E11) (.ref E11) = some true)
    (sE11_12 : PySem.W.subIn K (.ref E11) (.ref E12) = some false)
    (sE11_13 : PySem.W.subIn K (.ref E11) (.ref E13) = some false)
    (sE11_14 : PySem.W.subIn K (.ref E11) (.ref E14) = some false)
    (sE11_P : PySem.W.subIn K (.ref E11) (.ref CP) = some true)
    (bE11 : PySem.W.subIn K (.ref E11) (.type "BaseException") = some true)
    (vE11 : PySem.W.subIn K (.ref E11) (.type "ValueError") = some true)
    (kE11 : PySem.W.keepIn K (.ref E11) = true)
    (h1E11 : PySem.W.findIn K (.ref E11) "__getattribute__" = some (some (.builtin "BaseException.__getattribute__")))
    (h2E11 : PySem.W.findIn K (.ref E11) "__getattr__" = some none)
    (h3E11 : PySem.W.hasDictIn K E11 = true)
    (h4E11 : PySem.W.findIn K (.ref E11) "__class__" = some (some (.builtin "object.__class__")))
    (h5E11 : PySem.W.mroIn K E11 (.type "object") = some true)
    (sE12_0 : PySem.W.subIn K (.ref E12) (.ref E0) = some false)
    (sE12_1 : PySem.W.subIn K (.ref E12) (.ref E1) = some false)
    (sE12_2 : PySem.W.subIn K (.ref E12) (.ref E2) = some false)
    (sE12_3 : PySem.W.subIn K (.ref E12) (.ref E3) = some false)
    (sE12_4 : PySem.W.subIn K (.ref E12) (.ref E4) = some false)
    (sE12_5 : PySem.W.subIn K (.ref E12) (.ref E5) = some false)
    (sE12_6 : PySem.W.subIn K (.ref E12) (.ref E6) = some false)
    (sE12_7 : PySem.W.subIn K (.ref E12) (.ref E7) = some false)
    (sE12_8 : PySem.W.subIn K (.ref E12) (.ref E8) = some false)
    (sE12_9 : PySem.W.subIn K (.ref E12) (.ref E9) = some false)
    (sE12_10 : PySem.W.subIn K (.ref E12) (.ref E10) = some false)
    (sE12_11 : PySem.W.subIn K (.ref E12) (.ref E11) = some false)
    (sE12_12 : PySem.W.subIn K (.ref E12) (.ref E12) = some true)
    (sE12_13 : PySem.W.subIn K (.ref E12) (.ref E13) = some false)
    (sE12_14 : PySem.W.subIn K (.ref E12) (.ref E14) = some false)
    (sE12_P : PySem.W.subIn K (.ref E12) (.ref CP) = some true)
    (bE12 : PySem.W.subIn K (.ref E12) (.type "BaseException") = some true)
    (vE12 : PySem.W.subIn K (.ref E12) (.type "ValueError") = some true)
    (kE12 : PySem.W.keepIn K (.ref E12) = true)
    (h1E12 : PySem.W.findIn K (.ref E12) "__getattribute__" = some (some (.builtin "BaseException.__getattribute__")))
    (h2E12 : PySem.W.findIn K (.ref E12) "__getattr__" = some none)
    (h3E12 : PySem.W.hasDictIn K E12 = true)
    (h4E12 : PySem.W.findIn K (.ref E12) "__class__" = some (some (.builtin "object.__class__")))
    (h5E12 : PySem.W.mroIn K E12 (.type "object") = some true)
    (sE14_0 : PySem.W.subIn K (.ref E14) (.ref E0) = some false)
    (sE14_1 : PySem.W.subIn K (.ref E14) (.ref E1) = some false)
    (sE14_2 : PySem.W.subIn K (.ref E14) (.ref E2) = some false)
    (sE14_3 : PySem.W.subIn K (.ref E14) (.ref E3) = some false)
    (sE14_4 : PySem.W.subIn K (.ref E14) (.ref E4) = some false)
    (sE14_5 : PySem.W.subIn K (.ref E14) (.ref E5) = some false)
    (sE14_6 : PySem.W.subIn K (.ref E14) (.ref E6) = some false)
    (sE14_7 : PySem.W.subIn K (.ref E14) (.ref E7) = some false)
    (sE14_8 : PySem.W.subIn K (.ref E14) (.ref E8) = some false)
    (sE14_9 : PySem.W.subIn K (.ref E14) (.ref E9) = some false)
    (sE14_10 : PySem.W.subIn K (.ref E14) (.ref E10) = some false)
    (sE14_11 : PySem.W.subIn K (.ref E14) (.ref E11) = some false)
    (sE14_12 : PySem.W.subIn K (.ref E14) (.ref E12) = some false)
    (sE14_13 : PySem.W.subIn K (.ref E14) (.ref E13) = some false)
    (sE14_14 : PySem.W.subIn K (.ref E14) (.ref E14) = some true)
    (sE14_P : PySem.W.subIn K (.ref E14) (.ref CP) = some true)
    (bE14 : PySem.W.subIn K (.ref E14) (.type "BaseException") = some true)
    (vE14 : PySem.W.subIn K (.ref E14) (.type "ValueError") = some true)
    (kE14 : PySem.W.keepIn K (.ref E14) = true)
    (h1E14 : PySem.W.findIn K (.ref E14) "__getattribute__" = some (some (.builtin "BaseException.__getattribute__")))
    (h2E14 : PySem.W.findIn K (.ref E14) "__getattr__" = some none)
    (h3E14 : PySem.W.hasDictIn K E14 = true)
    (h4E14 : PySem.W.findIn K (.ref E14) "__class__" = some (some (.builtin "object.__class__")))
    (h5E14 : PySem.W.mroIn K E14 (.type "object") = some true)
    (supG : PySem.W.nsIn K mainGlobals "super" = some none)
    (supT : (l.prog.main.scope.names.lookup ("super" : Str)).isSome = false)
    (supA : PySem.W.nsIn K cStatics "thirdparty.any" = some none)
    (iS11 : PySem.W.findIn K (.ref E11) "__init__" = some (some (.ref fS11)))
    (tS11 : PySem.W.typeIn K (.ref fS11) = some (.type "function"))
    (lS11 : K.lookup fS11 = some ⟨ocS11, odS11, .func (PySem.W.ksFn "__init__" "InvalidNet.__init__" (defArgs s_InvalidNet_init) (defBody s_InvalidNet_init) (defScope s_InvalidNet_init) .none kVS11 dcS11 pmS11 anS11 (.ref cdaS11) ctS11 ccS11), slS11⟩)
    (cS11 : PySem.W.codeIn K (.ref cdaS11) "InvalidNet.__init__" = true)
    (xS11 : K.lookup cdaS11 = some ⟨cclS11, cddS11, .fields vsS11, ccsS11⟩)
    (yS11 : vsS11[2]? = some (.str fileS11 tfS11))
    (zS11 : ((l.prog.main.file : Str) == fileS11) = true)
    (eS11 : K.lookup ccS11 = some ⟨clS11, cldS11, .cell (some (.ref E11)), cslS11⟩)
    (oS11 : oexB K E11 = true)
    (sS11 : PySem.W.findIn K (.ref E11) "__setattr__" = some (some (.builtin "object.__setattr__")))
    (mS11 : PySem.W.mroIn K E11 (.ref E11) = some true)
    (uS11 : PySem.W.ks_superIn K E11 E11 "__init__" = some (some (.builtin "ValueError.__init__")))
    (nS11_part : PySem.W.findIn K (.ref E11) "part" = some none)
    (nS11_index : PySem.W.findIn K (.ref E11) "index" = some none)
    (iS12 : PySem.W.findIn K (.ref E12) "__init__" = some (some (.ref fS12)))
    (tS12 : PySem.W.typeIn K (.ref fS12) = some (.type "function"))
    (lS12 : K.lookup fS12 = some ⟨ocS12, odS12, .func (PySem.W.ksFn "__init__" "TextFault.__init__" (defArgs s_TextFault_init) (defBody s_TextFault_init) (defScope s_TextFault_init) .none kVS12 dcS12 pmS12 anS12 (.ref cdaS12) ctS12 ccS12), slS12⟩)
    (cS12 : PySem.W.codeIn K (.ref cdaS12) "TextFault.__init__" = true)
    (xS12 : K.lookup cdaS12 = some ⟨cclS12, cddS12, .fields vsS12, ccsS12⟩)
    (yS12 : vsS12[2]? = some (.str fileS12 tfS12))
    (zS12 : ((l.prog.main.file : Str) == fileS12) = true)
    (eS12 : K.lookup ccS12 = some ⟨clS12, cldS12, .cell (some (.ref E12)), cslS12⟩)
    (oS12 : oexB K E12 = true)
    (sS12 : PySem.W.findIn K (.ref E12) "__setattr__" = some (some (.builtin "object.__setattr__")))
    (mS12 : PySem.W.mroIn K E12 (.ref E12) = some true)
    (uS12 : PySem.W.ks_superIn K E12 E12 "__init__" = some (some (.builtin "ValueError.__init__")))
    (nS12_line : PySem.W.findIn K (.ref E12) "line" = some none)
    (iS14 : PySem.W.findIn K (.ref E14) "__init__" = some (some (.ref fS14)))
    (tS14 : PySem.W.typeIn K (.ref fS14) = some (.type "function"))
    (lS14 : K.lookup fS14 = some ⟨ocS14, odS14, .func (PySem.W.ksFn "__init__" "InvalidOperation.__init__" (defArgs s_InvalidOperation_init) (defBody s_InvalidOperation_init) (defScope s_InvalidOperation_init) .none kVS14 dcS14 pmS14 anS14 (.ref cdaS14) ctS14 ccS14), slS14⟩)
    (cS14 : PySem.W.codeIn K (.ref cdaS14) "InvalidOperation.__init__" = true)
    (xS14 : K.lookup cdaS14 = some ⟨cclS14, cddS14, .fields vsS14, ccsS14⟩)
    (yS14 : vsS14[2]? = some (.str fileS14 tfS14))
    (zS14 : ((l.prog.main.file : Str) == fileS14) = true)
    (eS14 : K.lookup ccS14 = some ⟨clS14, cldS14, .cell (some (.ref E14)), cslS14⟩)
    (oS14 : oexB K E14 = true)
    (sS14 : PySem.W.findIn K (.ref E14) "__setattr__" = some (some (.builtin "object.__setattr__")))
    (mS14 : PySem.W.mroIn K E14 (.ref E14) = some true)
    (uS14 : PySem.W.ks_superIn K E14 E14 "__init__" = some (some (.builtin "ValueError.__init__")))
    (nS14_place : PySem.W.findIn K (.ref E14) "place" = some none)
    : LamX.LawAtS l w K CX0 11 63 "_law_script" mg fa h := by
  have e := hfa.symm.trans (PySem.W.mg_of X G a22)
  cases e
  have G_Net := PySem.W.mg_of X G aCNet
  have T_Net : NetT K C_Net := ⟨⟨pgNet, hdNet, poNet, saNet⟩, nNet_period, nNet_houses, nNet_orders, nNet_followed⟩
  have G_Office := PySem.W.mg_of X G aCOffice
  have T_Office : OffT K C_Office := ⟨⟨pgOffice, hdOffice, poOffice, saOffice⟩, nOffice_net, nOffice_steps, nOffice_effective, nOffice_snapshots⟩
  have K_LONGEST_PERIOD : ∃ t, mg "LONGEST_PERIOD" = some (.int 30 t) := ⟨_, PySem.W.mg_of X G vLONGEST_PERIOD⟩
  have K_MOST_HOUSES : ∃ t, mg "MOST_HOUSES" = some (.int 10 t) := ⟨_, PySem.W.mg_of X G vMOST_HOUSES⟩
  have K_MOST_ORDERS : ∃ t, mg "MOST_ORDERS" = some (.int 20 t) := ⟨_, PySem.W.mg_of X G vMOST_ORDERS⟩
  have K_LONGEST_DELAY : ∃ t, mg "LONGEST_DELAY" = some (.int 9 t) := ⟨_, PySem.W.mg_of X G vLONGEST_DELAY⟩
  have K_MOST_DIGITS : ∃ t, mg "MOST_DIGITS" = some (.int 3 t) := ⟨_, PySem.W.mg_of X G vMOST_DIGITS⟩
  have A_ARGUMENTS : DctA K w mg "ARGUMENTS" ([("add", 1), ("cancel", 1), ("prolong", 2), ("raise", 1), ("undo", 0), ("redo", 0)] : List (Str × Int)) := .mk' (PySem.W.mg_of X G gd_ARGUMENTS) ld_ARGUMENTS kd_ARGUMENTS lo_ARGUMENTS fun p hp => by
    simp only [List.mem_cons, List.not_mem_nil, or_false] at hp
    rcases hp with rfl | rfl | rfl | rfl | rfl | rfl
    · exact ⟨_, vd_ARGUMENTS_0⟩
    · exact ⟨_, vd_ARGUMENTS_1⟩
    · exact ⟨_, vd_ARGUMENTS_2⟩
    · exact ⟨_, vd_ARGUMENTS_3⟩
    · exact ⟨_, vd_ARGUMENTS_4⟩
    · exact ⟨_, vd_ARGUMENTS_5⟩
  have A_NUMBERS : DctA K w mg "NUMBERS" ([("add", 5), ("cancel", 1), ("prolong", 2), ("raise", 1), ("undo", 0), ("redo", 0)] : List (Str × Int)) := .mk' (PySem.W.mg_of X G gd_NUMBERS) ld_NUMBERS kd_NUMBERS lo_NUMBERS fun p hp => by
    simp only [List.mem_cons, List.not_mem_nil, or_false] at hp
    rcases hp with rfl | rfl | rfl | rfl | rfl | rfl
    · exact ⟨_, vd_NUMBERS_0⟩
    · exact ⟨_, vd_NUMBERS_1⟩
    · exact ⟨_, vd_NUMBERS_2⟩
    · exact ⟨_, vd_NUMBERS_3⟩
    · exact ⟨_, vd_NUMBERS_4⟩
    · exact ⟨_, vd_NUMBERS_5⟩
  have DN_NUMBERS_net : DctNo K mg "NUMBERS" "net" := ⟨_, PySem.W.mg_of X G gd_NUMBERS, vn_NUMBERS_net⟩
  have DN_NUMBERS_4 : DctNo K mg "NUMBERS" "4" := ⟨_, PySem.W.mg_of X G gd_NUMBERS, vn_NUMBERS_4⟩
  have DN_NUMBERS_3 : DctNo K mg "NUMBERS" "3" := ⟨_, PySem.W.mg_of X G gd_NUMBERS, vn_NUMBERS_3⟩
  have DN_NUMBERS_order : DctNo K mg "NUMBERS" "order" := ⟨_, PySem.W.mg_of X G gd_NUMBERS, vn_NUMBERS_order⟩
  have DN_NUMBERS_0 : DctNo K mg "NUMBERS" "0" := ⟨_, PySem.W.mg_of X G gd_NUMBERS, vn_NUMBERS_0⟩
  have DN_NUMBERS_1 : DctNo K mg "NUMBERS" "1" := ⟨_, PySem.W.mg_of X G gd_NUMBERS, vn_NUMBERS_1⟩
  have DN_NUMBERS_2 : DctNo K mg "NUMBERS" "2" := ⟨_, PySem.W.mg_of X G gd_NUMBERS, vn_NUMBERS_2⟩
  have DN_NUMBERS_changes : DctNo K mg "NUMBERS" "changes" := ⟨_, PySem.W.mg_of X G gd_NUMBERS, vn_NUMBERS_changes⟩
  have DN_NUMBERS_9 : DctNo K mg "NUMBERS" "9" := ⟨_, PySem.W.mg_of X G gd_NUMBERS, vn_NUMBERS_9⟩
  have DN_NUMBERS_ : DctNo K mg "NUMBERS" "" := ⟨_, PySem.W.mg_of X G gd_NUMBERS, vn_NUMBERS_⟩
  have DN_NUMBERS_07 : DctNo K mg "NUMBERS" "07" := ⟨_, PySem.W.mg_of X G gd_NUMBERS, vn_NUMBERS_07⟩
  have DN_NUMBERS_5 : DctNo K mg "NUMBERS" "5" := ⟨_, PySem.W.mg_of X G gd_NUMBERS, vn_NUMBERS_5⟩
  have DN_NUMBERS_1000 : DctNo K mg "NUMBERS" "1000" := ⟨_, PySem.W.mg_of X G gd_NUMBERS, vn_NUMBERS_1000⟩
  have DN_NUMBERS_x : DctNo K mg "NUMBERS" "x" := ⟨_, PySem.W.mg_of X G gd_NUMBERS, vn_NUMBERS_x⟩
  have B : Blt mg := ⟨PySem.W.mg_none_of X G zlen, PySem.W.mg_none_of X G zrange, PySem.W.mg_none_of X G zisinstance, PySem.W.mg_none_of X G zint, PySem.W.mg_none_of X G zbool, PySem.W.mg_none_of X G zstr, PySem.W.mg_none_of X G ztuple, PySem.W.mg_none_of X G zlist, PySem.W.mg_none_of X G zall, PySem.W.mg_none_of X G zabs, PySem.W.mg_none_of X G zenumerate⟩
  let cE : Nat → Addr := fun j => ([E0, E1, E2, E3, E4, E5, E6, E7, E8, E9, E10, E11, E12, E13, E14] : List Addr).getD j 0
  have ME : ErrM mg CP cE := ⟨PySem.W.mg_of X G gEP, PySem.W.mg_of X G gE0, PySem.W.mg_of X G gE1, PySem.W.mg_of X G gE2, PySem.W.mg_of X G gE3, PySem.W.mg_of X G gE4, PySem.W.mg_of X G gE5, PySem.W.mg_of X G gE6, PySem.W.mg_of X G gE7, PySem.W.mg_of X G gE8, PySem.W.mg_of X G gE9, PySem.W.mg_of X G gE10, PySem.W.mg_of X G gE11, PySem.W.mg_of X G gE12, PySem.W.mg_of X G gE13, PySem.W.mg_of X G gE14, PySem.W.mg_none_of X G zVE⟩
  have X_UnknownOrder : Err15 K CP cE E2 2 := err15_mk (by decide) ⟨h1E2, h2E2, bE2, h3E2, h4E2, heN, heT, h5E2⟩ (exm_mk bEP iEP tEP sE2_P) vE2 rfl fun j hj => match j, hj with
    | 0, _ => ⟨iE0, tE0, sE2_0⟩
    | 1, _ => ⟨iE1, tE1, sE2_1⟩
    | 2, _ => ⟨iE2, tE2, sE2_2⟩
    | 3, _ => ⟨iE3, tE3, sE2_3⟩
    | 4, _ => ⟨iE4, tE4, sE2_4⟩
    | 5, _ => ⟨iE5, tE5, sE2_5⟩
    | 6, _ => ⟨iE6, tE6, sE2_6⟩
    | 7, _ => ⟨iE7, tE7, sE2_7⟩
    | 8, _ => ⟨iE8, tE8, sE2_8⟩
    | 9, _ => ⟨iE9, tE9, sE2_9⟩
    | 10, _ => ⟨iE10, tE10, sE2_10⟩
    | 11, _ => ⟨iE11, tE11, sE2_11⟩
    | 12, _ => ⟨iE12, tE12, sE2_12⟩
    | 13, _ => ⟨iE13, tE13, sE2_13⟩
    | 14, _ => ⟨iE14, tE14, sE2_14⟩
    | j + 15, h => absurd h (by omega)
  have R_UnknownOrder : ErrR K mg "UnknownOrder" E2 := ⟨PySem.W.mg_of X G gE2, xE2, kE2, bE2, tE2⟩
  have X_InvalidOrder : Err15 K CP cE E4 4 := err15_mk (by decide) ⟨h1E4, h2E4, bE4, h3E4, h4E4, heN, heT, h5E4⟩ (exm_mk bEP iEP tEP sE4_P) vE4 rfl fun j hj => match j, hj with
    | 0, _ => ⟨iE0, tE0, sE4_0⟩
    | 1, _ => ⟨iE1, tE1, sE4_1⟩
    | 2, _ => ⟨iE2, tE2, sE4_2⟩
    | 3, _ => ⟨iE3, tE3, sE4_3⟩
    | 4, _ => ⟨iE4, tE4, sE4_4⟩
    | 5, _ => ⟨iE5, tE5, sE4_5⟩
    | 6, _ => ⟨iE6, tE6, sE4_6⟩
    | 7, _ => ⟨iE7, tE7, sE4_7⟩
    | 8, _ => ⟨iE8, tE8, sE4_8⟩
    | 9, _ => ⟨iE9, tE9, sE4_9⟩
    | 10, _ => ⟨iE10, tE10, sE4_10⟩
    | 11, _ => ⟨iE11, tE11, sE4_11⟩
    | 12, _ => ⟨iE12, tE12, sE4_12⟩
    | 13, _ => ⟨iE13, tE13, sE4_13⟩
    | 14, _ => ⟨iE14, tE14, sE4_14⟩
    | j + 15, h => absurd h (by omega)
  have R_InvalidOrder : ErrR K mg "InvalidOrder" E4 := ⟨PySem.W.mg_of X G gE4, xE4, kE4, bE4, tE4⟩
  have X_TooManyOrders : Err15 K CP cE E5 5 := err15_mk (by decide) ⟨h1E5, h2E5, bE5, h3E5, h4E5, heN, heT, h5E5⟩ (exm_mk bEP iEP tEP sE5_P) vE5 rfl fun j hj => match j, hj with
    | 0, _ => ⟨iE0, tE0, sE5_0⟩
    | 1, _ => ⟨iE1, tE1, sE5_1⟩
    | 2, _ => ⟨iE2, tE2, sE5_2⟩
    | 3, _ => ⟨iE3, tE3, sE5_3⟩
    | 4, _ => ⟨iE4, tE4, sE5_4⟩
    | 5, _ => ⟨iE5, tE5, sE5_5⟩
    | 6, _ => ⟨iE6, tE6, sE5_6⟩
    | 7, _ => ⟨iE7, tE7, sE5_7⟩
    | 8, _ => ⟨iE8, tE8, sE5_8⟩
    | 9, _ => ⟨iE9, tE9, sE5_9⟩
    | 10, _ => ⟨iE10, tE10, sE5_10⟩
    | 11, _ => ⟨iE11, tE11, sE5_11⟩
    | 12, _ => ⟨iE12, tE12, sE5_12⟩
    | 13, _ => ⟨iE13, tE13, sE5_13⟩
    | 14, _ => ⟨iE14, tE14, sE5_14⟩
    | j + 15, h => absurd h (by omega)
  have R_TooManyOrders : ErrR K mg "TooManyOrders" E5 := ⟨PySem.W.mg_of X G gE5, xE5, kE5, bE5, tE5⟩
  have X_InvalidNet : Err15 K CP cE E11 11 := err15_mk (by decide) ⟨h1E11, h2E11, bE11, h3E11, h4E11, heN, heT, h5E11⟩ (exm_mk bEP iEP tEP sE11_P) vE11 rfl fun j hj => match j, hj with
    | 0, _ => ⟨iE0, tE0, sE11_0⟩
    | 1, _ => ⟨iE1, tE1, sE11_1⟩
    | 2, _ => ⟨iE2, tE2, sE11_2⟩
    | 3, _ => ⟨iE3, tE3, sE11_3⟩
    | 4, _ => ⟨iE4, tE4, sE11_4⟩
    | 5, _ => ⟨iE5, tE5, sE11_5⟩
    | 6, _ => ⟨iE6, tE6, sE11_6⟩
    | 7, _ => ⟨iE7, tE7, sE11_7⟩
    | 8, _ => ⟨iE8, tE8, sE11_8⟩
    | 9, _ => ⟨iE9, tE9, sE11_9⟩
    | 10, _ => ⟨iE10, tE10, sE11_10⟩
    | 11, _ => ⟨iE11, tE11, sE11_11⟩
    | 12, _ => ⟨iE12, tE12, sE11_12⟩
    | 13, _ => ⟨iE13, tE13, sE11_13⟩
    | 14, _ => ⟨iE14, tE14, sE11_14⟩
    | j + 15, h => absurd h (by omega)
  have X_TextFault : Err15 K CP cE E12 12 := err15_mk (by decide) ⟨h1E12, h2E12, bE12, h3E12, h4E12, heN, heT, h5E12⟩ (exm_mk bEP iEP tEP sE12_P) vE12 rfl fun j hj => match j, hj with
    | 0, _ => ⟨iE0, tE0, sE12_0⟩
    | 1, _ => ⟨iE1, tE1, sE12_1⟩
    | 2, _ => ⟨iE2, tE2, sE12_2⟩
    | 3, _ => ⟨iE3, tE3, sE12_3⟩
    | 4, _ => ⟨iE4, tE4, sE12_4⟩
    | 5, _ => ⟨iE5, tE5, sE12_5⟩
    | 6, _ => ⟨iE6, tE6, sE12_6⟩
    | 7, _ => ⟨iE7, tE7, sE12_7⟩
    | 8, _ => ⟨iE8, tE8, sE12_8⟩
    | 9, _ => ⟨iE9, tE9, sE12_9⟩
    | 10, _ => ⟨iE10, tE10, sE12_10⟩
    | 11, _ => ⟨iE11, tE11, sE12_11⟩
    | 12, _ => ⟨iE12, tE12, sE12_12⟩
    | 13, _ => ⟨iE13, tE13, sE12_13⟩
    | 14, _ => ⟨iE14, tE14, sE12_14⟩
    | j + 15, h => absurd h (by omega)
  have X_InvalidOperation : Err15 K CP cE E14 14 := err15_mk (by decide) ⟨h1E14, h2E14, bE14, h3E14, h4E14, heN, heT, h5E14⟩ (exm_mk bEP iEP tEP sE14_P) vE14 rfl fun j hj => match j, hj with
    | 0, _ => ⟨iE0, tE0, sE14_0⟩
    | 1, _ => ⟨iE1, tE1, sE14_1⟩
    | 2, _ => ⟨iE2, tE2, sE14_2⟩
    | 3, _ => ⟨iE3, tE3, sE14_3⟩
    | 4, _ => ⟨iE4, tE4, sE14_4⟩
    | 5, _ => ⟨iE5, tE5, sE14_5⟩
    | 6, _ => ⟨iE6, tE6, sE14_6⟩
    | 7, _ => ⟨iE7, tE7, sE14_7⟩
    | 8, _ => ⟨iE8, tE8, sE14_8⟩
    | 9, _ => ⟨iE9, tE9, sE14_9⟩
    | 10, _ => ⟨iE10, tE10, sE14_10⟩
    | 11, _ => ⟨iE11, tE11, sE14_11⟩
    | 12, _ => ⟨iE12, tE12, sE14_12⟩
    | 13, _ => ⟨iE13, tE13, sE14_13⟩
    | 14, _ => ⟨iE14, tE14, sE14_14⟩
    | j + 15, h => absurd h (by omega)
  have TO_InvalidNet : OexC K E11 := oex_mk oS11 sS11 bE11 tE11 kE11
  have XF_InvalidNet : XfC K E11 := ⟨h1E11, h2E11, bE11, h3E11⟩
  have SC_InvalidNet : SupC K E11 E11 := ⟨mS11, uS11, vE11⟩
  have SI_InvalidNet := (⟨⟨_, _, _, lS11⟩, ⟨_, rfl, rfl⟩, ⟨_, _, _, _, _, _, xS11, yS11, zS11⟩, ⟨_, _, _, eS11⟩, oex_cls oS11, PySem.W.mg_none_of X G supG, supT, supA, ⟨rfl, rfl, rfl, rfl⟩⟩ : SupI l.prog K mg (defScope s_InvalidNet_init) fS11 cdaS11 ccS11 E11 _)
  have FS_InvalidNet := (⟨_, _, _, _, _, _, _, _, rfl, lS11, cS11⟩ : FunS K "InvalidNet.__init__" s_InvalidNet_init fS11 cdaS11 ccS11 _)
  have BS_InvalidNet := (Binds.all fun us hl => match us, hl with | [_, _, _], _ => rfl : Binds K (PySem.W.ksFn "__init__" "InvalidNet.__init__" (defArgs s_InvalidNet_init) (defBody s_InvalidNet_init) (defScope s_InvalidNet_init) .none kVS11 dcS11 pmS11 anS11 (.ref cdaS11) ctS11 ccS11) P_InvalidNet_init [])
  have TO_TextFault : OexC K E12 := oex_mk oS12 sS12 bE12 tE12 kE12
  have XF_TextFault : XfC K E12 := ⟨h1E12, h2E12, bE12, h3E12⟩
  have SC_TextFault : SupC K E12 E12 := ⟨mS12, uS12, vE12⟩
  have SI_TextFault := (⟨⟨_, _, _, lS12⟩, ⟨_, rfl, rfl⟩, ⟨_, _, _, _, _, _, xS12, yS12, zS12⟩, ⟨_, _, _, eS12⟩, oex_cls oS12, PySem.W.mg_none_of X G supG, supT, supA, ⟨rfl, rfl, rfl, rfl⟩⟩ : SupI l.prog K mg (defScope s_TextFault_init) fS12 cdaS12 ccS12 E12 _)
  have FS_TextFault := (⟨_, _, _, _, _, _, _, _, rfl, lS12, cS12⟩ : FunS K "TextFault.__init__" s_TextFault_init fS12 cdaS12 ccS12 _)
  have BS_TextFault := (Binds.all fun us hl => match us, hl with | [_, _], _ => rfl : Binds K (PySem.W.ksFn "__init__" "TextFault.__init__" (defArgs s_TextFault_init) (defBody s_TextFault_init) (defScope s_TextFault_init) .none kVS12 dcS12 pmS12 anS12 (.ref cdaS12) ctS12 ccS12) P_TextFault_init [])
  have TO_InvalidOperation : OexC K E14 := oex_mk oS14 sS14 bE14 tE14 kE14
  have XF_InvalidOperation : XfC K E14 := ⟨h1E14, h2E14, bE14, h3E14⟩
  have SC_InvalidOperation : SupC K E14 E14 := ⟨mS14, uS14, vE14⟩
  have SI_InvalidOperation := (⟨⟨_, _, _, lS14⟩, ⟨_, rfl, rfl⟩, ⟨_, _, _, _, _, _, xS14, yS14, zS14⟩, ⟨_, _, _, eS14⟩, oex_cls oS14, PySem.W.mg_none_of X G supG, supT, supA, ⟨rfl, rfl, rfl, rfl⟩⟩ : SupI l.prog K mg (defScope s_InvalidOperation_init) fS14 cdaS14 ccS14 E14 _)
  have FS_InvalidOperation := (⟨_, _, _, _, _, _, _, _, rfl, lS14, cS14⟩ : FunS K "InvalidOperation.__init__" s_InvalidOperation_init fS14 cdaS14 ccS14 _)
  have BS_InvalidOperation := (Binds.all fun us hl => match us, hl with | [_, _], _ => rfl : Binds K (PySem.W.ksFn "__init__" "InvalidOperation.__init__" (defArgs s_InvalidOperation_init) (defBody s_InvalidOperation_init) (defScope s_InvalidOperation_init) .none kVS14 dcS14 pmS14 anS14 (.ref cdaS14) ctS14 ccS14) P_InvalidOperation_init [])
  have G_is_integer := PySem.W.mg_of X G a1
  have F_is_integer := fun_mk (st := s_is_integer) l1 c1 k1
  have B_is_integer := F_is_integer.binds (ps := P_is_integer) fun _ _ _ _ _ _ us hl => match us, hl with | [_], _ => rfl
  have G_is_within := PySem.W.mg_of X G a2
  have F_is_within := fun_mk (st := s_is_within) l2 c2 k2
  have B_is_within := F_is_within.binds (ps := P_is_within) fun _ _ _ _ _ _ us hl => match us, hl with | [_, _, _], _ => rfl
  have G_is_order := PySem.W.mg_of X G a3
  have F_is_order := fun_mk (st := s_is_order) l3 c3 k3
  have B_is_order := F_is_order.binds (ps := P_is_order) fun _ _ _ _ _ _ us hl => match us, hl with | [_, _, _], _ => rfl
  have G_check_orders := PySem.W.mg_of X G a4
  have F_check_orders := fun_mk (st := s_check_orders) l4 c4 k4
  have B_check_orders := F_check_orders.binds (ps := P_check_orders) fun _ _ _ _ _ _ us hl => match us, hl with | [_, _, _], _ => rfl
  have G_find_followed := PySem.W.mg_of X G a5
  have F_find_followed := fun_mk (st := s_find_followed) l5 c5 k5
  have B_find_followed := F_find_followed.binds (ps := P_find_followed) fun _ _ _ _ _ _ us hl => match us, hl with | [_, _, _], _ => rfl
  have G_l_random := PySem.W.mg_of X G a6
  have F_l_random := fun_mk (st := s_l_random) l6 c6 k6
  have B_l_random := F_l_random.binds (ps := P_l_random) fun _ _ _ _ _ _ us hl => match us, hl with | [_, _], _ => rfl
  have G_l_below := PySem.W.mg_of X G a7
  have F_l_below := fun_mk (st := s_l_below) l7 c7 k7
  have B_l_below := F_l_below.binds (ps := P_l_below) fun _ _ _ _ _ _ us hl => match us, hl with | [_, _], _ => rfl
  have G_l_equal := PySem.W.mg_of X G a8
  have F_l_equal := fun_mk (st := s_l_equal) l8 c8 k8
  have B_l_equal := F_l_equal.binds (ps := P_l_equal) fun _ _ _ _ _ _ us hl => match us, hl with | [_, _], _ => rfl
  have G_without_order := PySem.W.mg_of X G a9
  have F_without_order := fun_mk (st := s_without_order) l9 c9 k9
  have B_without_order := F_without_order.binds (ps := P_without_order) fun _ _ _ _ _ _ us hl => match us, hl with | [_, _], _ => rfl
  have G_is_numeral := PySem.W.mg_of X G a10
  have F_is_numeral := fun_mk (st := s_is_numeral) l10 c10 k10
  have B_is_numeral := F_is_numeral.binds (ps := P_is_numeral) fun _ _ _ _ _ _ us hl => match us, hl with | [_], _ => rfl
  have G_read_line := PySem.W.mg_of X G a11
  have F_read_line := fun_mk (st := s_read_line) l11 c11 k11
  have B_read_line := F_read_line.binds (ps := P_read_line) fun _ _ _ _ _ _ us hl => match us, hl with | [_, _, _], _ => rfl
  have G_read_rows := PySem.W.mg_of X G a12
  have F_read_rows := fun_mk (st := s_read_rows) l12 c12 k12
  have B_read_rows := F_read_rows.binds (ps := P_read_rows) fun _ _ _ _ _ _ us hl => match us, hl with | [_], _ => rfl
  have G_check_index := PySem.W.mg_of X G a13
  have F_check_index := fun_mk (st := s_check_index) l13 c13 k13
  have B_check_index := F_check_index.binds (ps := P_check_index) fun _ _ _ _ _ _ us hl => match us, hl with | [_, _], _ => rfl
  have G_with_order := PySem.W.mg_of X G a14
  have F_with_order := fun_mk (st := s_with_order) l14 c14 k14
  have B_with_order := F_with_order.binds (ps := P_with_order) fun _ _ _ _ _ _ us hl => match us, hl with | [_, _, _], _ => rfl
  have G_l_error_of := PySem.W.mg_of X G a15
  have F_l_error_of := fun_mk (st := s_l_error_of) l15 c15 k15
  have B_l_error_of := F_l_error_of.binds (ps := P_l_error_of) fun _ _ _ _ _ _ us hl => match us, hl with | [_], _ => rfl
  have G_l_is_number := PySem.W.mg_of X G a16
  have F_l_is_number := fun_mk (st := s_l_is_number) l16 c16 k16
  have B_l_is_number := F_l_is_number.binds (ps := P_l_is_number) fun _ _ _ _ _ _ us hl => match us, hl with | [_], _ => rfl
  have G_l_parsed_line := PySem.W.mg_of X G a17
  have F_l_parsed_line := fun_mk (st := s_l_parsed_line) l17 c17 k17
  have B_l_parsed_line := F_l_parsed_line.binds (ps := P_l_parsed_line) fun _ _ _ _ _ _ us hl => match us, hl with | [_], _ => rfl
  have G_is_operation := PySem.W.mg_of X G a18
  have F_is_operation := fun_mk (st := s_is_operation) l18 c18 k18
  have B_is_operation := F_is_operation.binds (ps := P_is_operation) fun _ _ _ _ _ _ us hl => match us, hl with | [_], _ => rfl
  have G_read_operation := PySem.W.mg_of X G a19
  have F_read_operation := fun_mk (st := s_read_operation) l19 c19 k19
  have B_read_operation := F_read_operation.binds (ps := P_read_operation) fun _ _ _ _ _ _ us hl => match us, hl with | [_], _ => rfl
  have G_read_operations := PySem.W.mg_of X G a20
  have F_read_operations := fun_mk (st := s_read_operations) l20 c20 k20
  have B_read_operations := F_read_operations.binds (ps := P_read_operations) fun _ _ _ _ _ _ us hl => match us, hl with | [_, _], _ => rfl
  have G_parse_session := PySem.W.mg_of X G a21
  have F_parse_session := fun_mk (st := s_parse_session) l21 c21 k21
  have B_parse_session := F_parse_session.binds (ps := P_parse_session) fun _ _ _ _ _ _ us hl => match us, hl with | [_], _ => rfl
  have G_law := PySem.W.mg_of X G a22
  have F_law : FunC K "law" "law" s_law fa _ cL := ⟨_, _, _, _, _, _, _, _, rfl, l22, c22⟩
  have F_Net_init := fun_mk (st := s_Net_init) l23 c23 k23
  have B_Net_init := F_Net_init.binds (ps := P_Net_init) fun _ _ _ _ _ _ us hl => match us, hl with | [_, _, _, _], _ => rfl
  have M_Net_init : Mk K C_Net f23 := ⟨mkNet, a23, i23, kcNet⟩
  have F_Net_text := fun_mk (st := s_Net_text) l24 c24 k24
  have B_Net_text := F_Net_text.binds (ps := P_Net_text) fun _ _ _ _ _ _ us hl => match us, hl with | [_], _ => rfl
  have M_Net_text : PropOf K C_Net "text" p24 f24 := ⟨a24, pg24, pt24, _, pc24⟩
  have F_Office_init := fun_mk (st := s_Office_init) l25 c25 k25
  have B_Office_init := F_Office_init.binds (ps := P_Office_init) fun _ _ _ _ _ _ us hl => match us, hl with | [_, _], _ => rfl
  have M_Office_init : Mk K C_Office f25 := ⟨mkOffice, a25, i25, kcOffice⟩
  have F_Office_present_orders := fun_mk (st := s_Office_present_orders) l26 c26 k26
  have B_Office_present_orders := F_Office_present_orders.binds (ps := P_Office_present_orders) fun _ _ _ _ _ _ us hl => match us, hl with | [_], _ => rfl
  have M_Office_present_orders : PropOf K C_Office "present_orders" p26 f26 := ⟨a26, pg26, pt26, _, pc26⟩
  have F_Office_take_step := fun_mk (st := s_Office_take_step) l27 c27 k27
  have B_Office_take_step := F_Office_take_step.binds (ps := P_Office_take_step) fun _ _ _ _ _ _ us hl => match us, hl with | [_, _, _], _ => rfl
  have M_Office_take_step : Meth K C_Office "take_step" f27 := ⟨a27, i27, k27⟩
  have F_Office_undo := fun_mk (st := s_Office_undo) l28 c28 k28
  have B_Office_undo := F_Office_undo.binds (ps := P_Office_undo) fun _ _ _ _ _ _ us hl => match us, hl with | [_], _ => rfl
  have M_Office_undo : Meth K C_Office "undo" f28 := ⟨a28, i28, k28⟩
  have F_Office_cancel := fun_mk (st := s_Office_cancel) l29 c29 k29
  have B_Office_cancel := F_Office_cancel.binds (ps := P_Office_cancel) fun _ _ _ _ _ _ us hl => match us, hl with | [_, _], _ => rfl
  have M_Office_cancel : Meth K C_Office "cancel" f29 := ⟨a29, i29, k29⟩
  have F_Office_raise_order := fun_mk (st := s_Office_raise_order) l30 c30 k30
  have B_Office_raise_order := F_Office_raise_order.binds (ps := P_Office_raise_order) fun _ _ _ _ _ _ us hl => match us, hl with | [_, _], _ => rfl
  have M_Office_raise_order : Meth K C_Office "raise_order" f30 := ⟨a30, i30, k30⟩
  have F_Office_redo := fun_mk (st := s_Office_redo) l31 c31 k31
  have B_Office_redo := F_Office_redo.binds (ps := P_Office_redo) fun _ _ _ _ _ _ us hl => match us, hl with | [_], _ => rfl
  have M_Office_redo : Meth K C_Office "redo" f31 := ⟨a31, i31, k31⟩
  have F_Office_add := fun_mk (st := s_Office_add) l32 c32 k32
  have B_Office_add := F_Office_add.binds (ps := P_Office_add) fun _ _ _ _ _ _ us hl => match us, hl with | [_, _], _ => rfl
  have M_Office_add : Meth K C_Office "add" f32 := ⟨a32, i32, k32⟩
  have F_Office_prolong := fun_mk (st := s_Office_prolong) l33 c33 k33
  have B_Office_prolong := F_Office_prolong.binds (ps := P_Office_prolong) fun _ _ _ _ _ _ us hl => match us, hl with | [_, _, _], _ => rfl
  have M_Office_prolong : Meth K C_Office "prolong" f33 := ⟨a33, i33, k33⟩
  have F_Office_execute := fun_mk (st := s_Office_execute) l34 c34 k34
  have B_Office_execute := F_Office_execute.binds (ps := P_Office_execute) fun _ _ _ _ _ _ us hl => match us, hl with | [_, _], _ => rfl
  have M_Office_execute : Meth K C_Office "execute" f34 := ⟨a34, i34, k34⟩
  have F_Net_parse := fun_mk (st := s_Net_parse) l35 c35 k35
  have B_Net_parse := F_Net_parse.binds (ps := P_Net_parse) fun _ _ _ _ _ _ us hl => match us, hl with | [_, _], _ => rfl
  have M_Net_parse : ClX.CMet K C_Net (.type "type") "parse" p35 f35 := ⟨a35, ⟨_, pc35⟩, fi35⟩
  have F_Office_replay := fun_mk (st := s_Office_replay) l36 c36 k36
  have B_Office_replay := F_Office_replay.binds (ps := P_Office_replay) fun _ _ _ _ _ _ us hl => match us, hl with | [_, _, _], _ => rfl
  have M_Office_replay : ClX.CMet K C_Office (.type "type") "replay" p36 f36 := ⟨a36, ⟨_, pc36⟩, fi36⟩
  have R_Net : ClX.CRead K C_Net (.type "type") := ⟨rdNet, rgNet⟩
  have R_Office : ClX.CRead K C_Office (.type "type") := ⟨rdOffice, rgOffice⟩
  refine ⟨PySem.W.fnOf "law" "law" (defArgs s_law) (defBody s_law) (defScope s_law) .none kV22 dc22 pm22 an22 (.ref cL) ct22, [(cL, PL)], spLawT K PL, fun p hp => ?_, fun p hp => ?_, fun p hp => ?_, fun s v => .of_eq rfl, fun H a ns hl _ hT hS => ⟨a, ns, rfl, hS, hl, hT _ List.mem_cons_self, fun _ => rfl⟩, fun base _ _ hTB => ?_⟩
  · rw [List.mem_singleton.mp hp]
    exact own cL PL _ _ _ _ _ _ l22 rfl rfl tl t11
  · rw [List.mem_singleton.mp hp]
    exact tP
  · rw [List.mem_singleton.mp hp]
    exact PySem.W.codeHd_of_K X th
  have TBl := hTB (cL, PL) List.mem_cons_self
  have D_isint : Df l.prog w K mg base "is_integer" 1 P_is_integer (spIsInt K) := ⟨_, _, G_is_integer, F_is_integer.kp, B_is_integer, ok_isint F_is_integer B⟩
  have D_within : Df l.prog w K mg base "is_within" 2 P_is_within (spWithin K) := ⟨_, _, G_is_within, F_is_within.kp, B_is_within, ok_within F_is_within D_isint⟩
  have D_order : Df l.prog w K mg base "is_order" 3 P_is_order (spIsOrder K) := ⟨_, _, G_is_order, F_is_order.kp, B_is_order, ok_is_order F_is_order B D_within K_LONGEST_DELAY⟩
  have D_chk : Df l.prog w K mg base "check_orders" 4 P_check_orders spChkOrders := ⟨_, _, G_check_orders, F_check_orders.kp, B_check_orders, ok_chk_orders F_check_orders B D_order K_MOST_ORDERS⟩
  have D_fol : Df l.prog w K mg base "find_followed" 2 P_find_followed spFollowed := ⟨_, _, G_find_followed, F_find_followed.kp, B_find_followed, ok_followed F_find_followed B⟩
  have D_rnd : Df l.prog w K mg base "_law_random" 2 P_l_random (spRandom K) := ⟨_, _, G_l_random, F_l_random.kp, B_l_random, ok_random F_l_random B⟩
  have D_bel : Df l.prog w K mg base "_law_below" 2 P_l_below spBelow := ⟨_, _, G_l_below, F_l_below.kp, B_l_below, ok_below F_l_below B.len⟩
  have O_init : FnOk l.prog w K mg base CX0 5 _ _ P_Net_init (spInit C_Net) := ok_init F_Net_init T_Net D_within D_chk D_fol K_LONGEST_PERIOD K_MOST_HOUSES
  have D_eq : ∀ n, Df l.prog w K mg base "_law_equal" (n + 2) P_l_equal (spEqual n) := fun n => ⟨_, _, G_l_equal, F_l_equal.kp, B_l_equal, (ok_equal F_l_equal B G_l_equal B_l_equal n).mono (by omega)⟩
  have D_wo : Df l.prog w K mg base "without_order" 1 P_without_order spWo := ⟨_, _, G_without_order, F_without_order.kp, B_without_order, ok_wo F_without_order⟩
  have O_tx : FnOk l.prog w K mg base CX0 2 _ _ P_Net_text (spText C_Net) := ok_text F_Net_text T_Net
  have D_nu : Df l.prog w K mg base "is_numeral" 2 P_is_numeral spNum := ⟨_, _, G_is_numeral, F_is_numeral.kp, B_is_numeral, ok_numeral F_is_numeral B K_MOST_DIGITS⟩
  have D_li : Df l.prog w K mg base "read_line" 3 P_read_line spLine := ⟨_, _, G_read_line, F_read_line.kp, B_read_line, ok_line F_read_line B D_nu⟩
  have D_ro : Df l.prog w K mg base "read_rows" 4 P_read_rows spRows := ⟨_, _, G_read_rows, F_read_rows.kp, B_read_rows, ok_rows F_read_rows B D_li⟩
  have O_pa : FnOk l.prog w K mg base CX0 7 _ _ P_Net_parse (spParse C_Net) := ok_parse F_Net_parse B D_ro M_Net_init O_init B_Net_init
  have D_ci : Df l.prog w K mg base "check_index" 3 P_check_index spChkIx := ⟨_, _, G_check_index, F_check_index.kp, B_check_index, ok_chk_ix F_check_index B D_within⟩
  have O_oi : FnOk l.prog w K mg base CX0 1 _ _ P_Office_init (spOInit C_Office C_Net) := ok_off_init F_Office_init T_Office
  have O_po : FnOk l.prog w K mg base CX0 1 _ _ P_Office_present_orders (spPres C_Office C_Net) := ok_pres F_Office_present_orders T_Office T_Net
  have O_ts : FnOk l.prog w K mg base CX0 1 _ _ P_Office_take_step (spTake C_Office C_Net) := ok_take F_Office_take_step T_Office
  have O_un : FnOk l.prog w K mg base CX0 1 _ _ P_Office_undo (spUndo C_Office C_Net) := ok_undo F_Office_undo T_Office
  have O_oc : FnOk l.prog w K mg base CX0 4 _ _ P_Office_cancel (spCancel C_Office C_Net) := ok_cancel F_Office_cancel T_Office M_Office_present_orders O_po B_Office_present_orders M_Office_take_step O_ts B_Office_take_step D_ci D_wo
  have O_ra : FnOk l.prog w K mg base CX0 4 _ _ P_Office_raise_order (spRaise C_Office C_Net) := ok_raise F_Office_raise_order T_Office M_Office_present_orders O_po B_Office_present_orders M_Office_take_step O_ts B_Office_take_step D_ci D_wo
  have D_wi : Df l.prog w K mg base "with_order" 1 P_with_order spWith := ⟨_, _, G_with_order, F_with_order.kp, B_with_order, ok_with F_with_order⟩
  have O_rd : FnOk l.prog w K mg base CX0 1 _ _ P_Office_redo (spRedo C_Office C_Net) := ok_redo F_Office_redo B T_Office
  have O_ad : FnOk l.prog w K mg base CX0 4 _ _ P_Office_add (spAdd C_Office C_Net) := ok_add F_Office_add B T_Office T_Net M_Office_present_orders O_po B_Office_present_orders M_Office_take_step O_ts B_Office_take_step D_order K_MOST_ORDERS
  have O_pg : FnOk l.prog w K mg base CX0 4 _ _ P_Office_prolong (spProlong C_Office C_Net) := ok_prolong F_Office_prolong B T_Office T_Net M_Office_present_orders O_po B_Office_present_orders M_Office_take_step O_ts B_Office_take_step D_ci D_order D_wi
  have O_ex : FnOk l.prog w K mg base CX0 5 _ _ P_Office_execute (spExec C_Office C_Net) := ok_exec F_Office_execute T_Office M_Office_add O_ad B_Office_add M_Office_cancel O_oc B_Office_cancel M_Office_prolong O_pg B_Office_prolong M_Office_raise_order O_ra B_Office_raise_order M_Office_undo O_un B_Office_undo M_Office_redo O_rd B_Office_redo
  have O_oi2 : FnOk l.prog w K mg base CX0 1 _ _ P_Office_init (spOInit2 C_Office C_Net) := ok_off_init2 F_Office_init T_Office
  have D_io : Df l.prog w K mg base "is_operation" 1 P_is_operation spIsOpn := ⟨_, _, G_is_operation, F_is_operation.kp, B_is_operation, ok_is_opn F_is_operation B A_ARGUMENTS⟩
  have O_rp : FnOk l.prog w K mg base CX0 6 _ _ P_Office_replay (spReplay C_Office C_Net) := ok_replay F_Office_replay B T_Office M_Office_init O_oi2 B_Office_init D_io M_Office_execute O_ex B_Office_execute
  have D_rop : Df l.prog w K mg base "read_operation" 4 P_read_operation spReadOp := ⟨_, _, G_read_operation, F_read_operation.kp, B_read_operation, ok_read_op F_read_operation A_NUMBERS D_li⟩
  have D_rops : Df l.prog w K mg base "read_operations" 5 P_read_operations spReadOps := ⟨_, _, G_read_operations, F_read_operations.kp, B_read_operations, ok_read_ops F_read_operations B D_rop⟩
  have O_ix0 : FnOk l.prog w K mg base CX0 3 _ _ P_check_index spChkIx := ok_chk_ix F_check_index B D_within
  have O_ixN : FnOk l.prog w K mg base (L2N.CX l.prog w) 3 _ _ P_check_index (spChkIxX E2) := ok_chk_ixN F_check_index B R_UnknownOrder D_within
  have O_adN : FnOk l.prog w K mg base (L2N.CX l.prog w) 4 _ _ P_Office_add (spAddX C_Office C_Net E4 E5) := ok_addN F_Office_add B T_Office T_Net R_InvalidOrder R_TooManyOrders M_Office_present_orders O_po B_Office_present_orders D_order K_MOST_ORDERS
  have O_ocN : FnOk l.prog w K mg base (L2N.CX l.prog w) 4 _ _ P_Office_cancel (spIxX C_Office C_Net E2) := ok_cancelN F_Office_cancel T_Office M_Office_present_orders O_po B_Office_present_orders G_check_index F_check_index.kp B_check_index O_ixN
  have O_raN : FnOk l.prog w K mg base (L2N.CX l.prog w) 4 _ _ P_Office_raise_order (spIxX C_Office C_Net E2) := ok_raiseN F_Office_raise_order T_Office M_Office_present_orders O_po B_Office_present_orders G_check_index F_check_index.kp B_check_index O_ixN
  have O_pgN : FnOk l.prog w K mg base (L2N.CX l.prog w) 4 _ _ P_Office_prolong (spProlongX C_Office C_Net E2 E4) := ok_prolongN F_Office_prolong T_Office T_Net R_InvalidOrder M_Office_present_orders O_po B_Office_present_orders G_check_index F_check_index.kp B_check_index O_ix0 O_ixN D_order
  have O_exG : FnOk l.prog w K mg base (L2N.CX l.prog w) 5 _ _ P_Office_execute (spDoG C_Office C_Net cE) := ok_execG F_Office_execute T_Office M_Office_add O_adN B_Office_add M_Office_cancel O_ocN B_Office_cancel M_Office_prolong O_pgN B_Office_prolong M_Office_raise_order O_raN B_Office_raise_order
  have D_ioG : Df l.prog w K mg base "is_operation" 1 P_is_operation spIsOpnG := ⟨_, _, G_is_operation, F_is_operation.kp, B_is_operation, ok_is_opnG F_is_operation B A_ARGUMENTS⟩
  have E15s : ∀ j, j = 2 ∨ j = 4 ∨ j = 5 → Err15 K CP cE (cE j) j := fun j hj => hj.elim (fun e => by subst e; exact X_UnknownOrder) fun hj => hj.elim (fun e => by subst e; exact X_InvalidOrder) fun e => by subst e; exact X_TooManyOrders
  have NEH : OneErrH l.prog w K mg base "InvalidOperation" "place" P_InvalidOperation_init E14 := ⟨PySem.W.mg_of X G gE14, TO_InvalidOperation, SC_InvalidOperation, nS14_place, _, _, iS14, tS14, ok_operrH FS_InvalidOperation SI_InvalidOperation, BS_InvalidOperation⟩
  have O_rpG : FnOk l.prog w K mg base (L2.CX l.prog w) 6 _ _ P_Office_replay (spReplayG C_Office C_Net E14) := ok_replayG F_Office_replay B T_Office NEH ME.gp E15s M_Office_init O_oi2 B_Office_init D_ioG M_Office_execute O_ex O_exG B_Office_execute
  have NE : NetErr l.prog w K mg base E11 := ⟨PySem.W.mg_of X G gE11, TO_InvalidNet, SC_InvalidNet, nS11_part, nS11_index, _, _, iS11, tS11, ok_neterr FS_InvalidNet SI_InvalidNet, BS_InvalidNet⟩
  have NT : OneErr l.prog w K mg base "TextFault" "line" P_TextFault_init E12 := ⟨PySem.W.mg_of X G gE12, TO_TextFault, SC_TextFault, nS12_line, _, _, iS12, tS12, ok_linerr FS_TextFault SI_TextFault, BS_TextFault⟩
  have O_cox : FnOk l.prog w K mg base (L2.CX l.prog w) 4 _ _ P_check_orders (spChkOrdersX K E11) := ok_chk_ordersX F_check_orders B NE D_order K_MOST_ORDERS
  have O_inx : FnOk l.prog w K mg base (L2.CX l.prog w) 5 _ _ P_Net_init (spInitX K E11) := ok_initX F_Net_init NE D_within G_check_orders F_check_orders.kp B_check_orders O_cox K_LONGEST_PERIOD K_MOST_HOUSES
  have O_ro : FnOk l.prog w K mg base CX0 4 _ _ P_read_rows spRows := ok_rows F_read_rows B D_li
  have O_rox : FnOk l.prog w K mg base (L2.CX l.prog w) 4 _ _ P_read_rows (spRowsX E12) := ok_rowsX F_read_rows B NT D_li
  have O_pax : FnOk l.prog w K mg base (L2.CX l.prog w) 7 _ _ P_Net_parse (spParseX K C_Net E12 E11) := ok_parseX F_Net_parse B G_read_rows F_read_rows.kp B_read_rows O_ro O_rox M_Net_init O_inx B_Net_init
  have DNO := dno27 DN_NUMBERS_net DN_NUMBERS_4 DN_NUMBERS_3 DN_NUMBERS_order DN_NUMBERS_0 DN_NUMBERS_1 DN_NUMBERS_2 DN_NUMBERS_changes DN_NUMBERS_9 DN_NUMBERS_ DN_NUMBERS_07 DN_NUMBERS_5 DN_NUMBERS_1000 DN_NUMBERS_x
  have D_rog : Df l.prog w K mg base "read_operation" 4 P_read_operation (spReadOpG WL27) := ⟨_, _, G_read_operation, F_read_operation.kp, B_read_operation, ok_read_opG F_read_operation A_NUMBERS DNO D_li⟩
  have O_rosg : FnOk l.prog w K mg base (L2.CX l.prog w) 5 _ _ P_read_operations (spReadOpsG E12 WL27) := ok_read_opsG F_read_operations B NT D_rog
  have O_ps : FnOk l.prog w K mg base CX0 8 _ _ P_parse_session (spParseSess C_Net) := ok_parse_sess F_parse_session B T_Net G_Office R_Office M_Office_replay O_rp B_Office_replay G_Net R_Net M_Net_parse O_pa B_Net_parse M_Net_text O_tx B_Net_text D_rops
  have O_psg : FnOk l.prog w K mg base (L2.CX l.prog w) 8 _ _ P_parse_session (spParseSG K C_Net E12 E11 E14 WL27) := ok_parse_sessG F_parse_session B NT G_Office R_Office M_Office_replay O_rpG B_Office_replay G_Net R_Net M_Net_parse O_pa O_pax B_Net_parse G_read_operations F_read_operations.kp B_read_operations O_rosg
  have D_isn : Df l.prog w K mg base "_law_is_number" 2 P_l_is_number spLawNum := ⟨_, _, G_l_is_number, F_l_is_number.kp, B_l_is_number, ok_lawnum F_l_is_number B⟩
  have D_pl : Df l.prog w K mg base "_law_parsed_line" 3 P_l_parsed_line (spLawLine WL27) := ⟨_, _, G_l_parsed_line, F_l_parsed_line.kp, B_l_parsed_line, ok_lawline F_l_parsed_line B D_isn⟩
  exact ok_law F_law TBl B F_l_error_of G_l_error_of F_l_error_of.kp B_l_error_of ME X_InvalidNet XF_InvalidNet nS11_part nS11_index X_TextFault XF_TextFault nS12_line X_InvalidOperation XF_InvalidOperation nS14_place D_rnd D_bel D_pl D_eq G_Net R_Net M_Net_parse O_pa (FnOk.or (FnOk.up O_pa) O_pax) B_Net_parse G_Office R_Office M_Office_replay (FnOk.or (FnOk.up O_rp) O_rpG) B_Office_replay G_parse_session F_parse_session.kp B_parse_session O_ps O_psg
end Cp
open PySem PySem.W PyProof.Rows
set_option maxRecDepth 100000 in
set_option maxHeartbeats 0 in
theorem PySem.Challenge.cw_chasepost_k27_invalid_sessions_holds : PySem.Challenge.rw_chasepost_k27_invalid_sessions.Holds := by
  w_on; o_law; k_head; (case hw => w_witness2)
  k_fill
  refine LamX.walk_ofOwn (l := PySem.Challenge.rw_chasepost_k27_invalid_sessions) (n := 63) (k := 11) (x := "_law_script") (CX := fun _ => L2.CX0) rfl (by decide) rfl ⟨rfl, by decide, by decide⟩ (by decide +kernel) (fun w h Y => PySem.W.km_in_of Y) ?F (fun _ _ _ _ _ h => h)
  case F =>
    intro w mg fa h Y KX G hmg own
    refine' Cp.all_mk KX G hmg own ?aCNet ?aCOffice ?a1 ?l1 ?c1 ?k1 ?a2 ?l2 ?c2 ?k2 ?a3 ?l3 ?c3 ?k3 ?a4 ?l4 ?c4 ?k4 ?a5 ?l5 ?c5 ?k5 ?a6 ?l6 ?c6 ?k6 ?a7 ?l7 ?c7 ?k7 ?a8 ?l8 ?c8 ?k8 ?a9 ?l9 ?c9 ?k9 ?a10 ?l10 ?c10 ?k10 ?a11 ?l11 ?c11 ?k11 ?a12 ?l12 ?c12 ?k12 ?a13 ?l13 ?c13 ?k13 ?a14 ?l14 ?c14 ?k14 ?a15 ?l15 ?c15 ?k15 ?a16 ?l16 ?c16 ?k16 ?a17 ?l17 ?c17 ?k17 ?a18 ?l18 ?c18 ?k18 ?a19 ?l19 ?c19 ?k19 ?a20 ?l20 ?c20 ?k20 ?a21 ?l21 ?c21 ?k21 ?a22 ?l22 ?c22 ?k22 ?a23 ?i23 ?l23 ?c23 ?k23 ?a24 ?pg24 ?pt24 ?pc24 ?l24 ?c24 ?k24 ?a25 ?i25 ?l25 ?c25 ?k25 ?a26 ?pg26 ?pt26 ?pc26 ?l26 ?c26 ?k26 ?a27 ?i27 ?l27 ?c27 ?k27 ?a28 ?i28 ?l28 ?c28 ?k28 ?a29 ?i29 ?l29 ?c29 ?k29 ?a30 ?i30 ?l30 ?c30 ?k30 ?a31 ?i31 ?l31 ?c31 ?k31 ?a32 ?i32 ?l32 ?c32 ?k32 ?a33 ?i33 ?l33 ?c33 ?k33 ?a34 ?i34 ?l34 ?c34 ?k34 ?a35 ?pc35 ?fi35 ?l35 ?c35 ?k35 ?a36 ?pc36 ?fi36 ?l36 ?c36 ?k36 ?rdNet ?rgNet ?rdOffice ?rgOffice ?pgNet ?hdNet ?poNet ?saNet ?mkNet ?kcNet ?nNet_period ?nNet_houses ?nNet_orders ?nNet_followed ?pgOffice ?hdOffice ?poOffice ?saOffice ?mkOffice ?kcOffice ?nOffice_net ?nOffice_steps ?nOffice_effective ?nOffice_snapshots ?vLONGEST_PERIOD ?vMOST_HOUSES ?vMOST_ORDERS ?vLONGEST_DELAY ?vMOST_DIGITS ?gd_ARGUMENTS ?ld_ARGUMENTS ?kd_ARGUMENTS ?lo_ARGUMENTS ?vd_ARGUMENTS_0 ?vd_ARGUMENTS_1 ?vd_ARGUMENTS_2 ?vd_ARGUMENTS_3 ?vd_ARGUMENTS_4 ?vd_ARGUMENTS_5 ?gd_NUMBERS ?ld_NUMBERS ?kd_NUMBERS ?lo_NUMBERS ?vd_NUMBERS_0 ?vd_NUMBERS_1 ?vd_NUMBERS_2 ?vd_NUMBERS_3 ?vd_NUMBERS_4 ?vd_NUMBERS_5 ?vn_NUMBERS_net ?vn_NUMBERS_4 ?vn_NUMBERS_3 ?vn_NUMBERS_order ?vn_NUMBERS_0 ?vn_NUMBERS_1 ?vn_NUMBERS_2 ?vn_NUMBERS_changes ?vn_NUMBERS_9 ?vn_NUMBERS_ ?vn_NUMBERS_07 ?vn_NUMBERS_5 ?vn_NUMBERS_1000 ?vn_NUMBERS_x ?zlen ?zrange ?zisinstance ?zint ?zbool ?zstr ?ztuple ?zlist ?zall ?zabs ?zenumerate ?tl ?t11 ?tP ?th ?gEP ?iEP ?tEP ?bEP ?zVE ?gE0 ?iE0 ?tE0 ?gE1 ?iE1 ?tE1 ?gE2 ?iE2 ?tE2 ?gE3 ?iE3 ?tE3 ?gE4 ?iE4 ?tE4 ?gE5 ?iE5 ?tE5 ?gE6 ?iE6 ?tE6 ?gE7 ?iE7 ?tE7 ?gE8 ?iE8 ?tE8 ?gE9 ?iE9 ?tE9 ?gE10 ?iE10 ?tE10 ?gE11 ?iE11 ?tE11 ?gE12 ?iE12 ?tE12 ?gE13 ?iE13 ?tE13 ?gE14 ?iE14 ?tE14 ?heN ?heT ?sE2_0 ?sE2_1 ?sE2_2 ?sE2_3 ?sE2_4 ?sE2_5 ?sE2_6 ?sE2_7 ?sE2_8 ?sE2_9 ?sE2_10 ?sE2_11 ?sE2_12 ?sE2_13 ?sE2_14 ?sE2_P ?bE2 ?vE2 ?kE2 ?h1E2 ?h2E2 ?h3E2 ?h4E2 ?h5E2 ?xE2 ?sE4_0 ?sE4_1 ?sE4_2 ?sE4_3 ?sE4_4 ?sE4_5 ?sE4_6 ?sE4_7 ?sE4_8 ?sE4_9 ?sE4_10 ?sE4_11 ?sE4_12 ?sE4_13 ?sE4_14 ?sE4_P ?bE4 ?vE4 ?kE4 ?h1E4 ?h2E4 ?h3E4 ?h4E4 ?h5E4 ?xE4 ?sE5_0 ?sE5_1 ?sE5_2 ?sE5_3 ?sE5_4 ?sE5_5 ?sE5_6 ?sE5_7 ?sE5_8 ?sE5_9 ?sE5_10 ?sE5_11 ?sE5_12 ?sE5_13 ?sE5_14 ?sE5_P ?bE5 ?vE5 ?kE5 ?h1E5 ?h2E5 ?h3E5 ?h4E5 ?h5E5 ?xE5 ?sE11_0 ?sE11_1 ?sE11_2 ?sE11_3 ?sE11_4 ?sE11_5 ?sE11_6 ?sE11_7 ?sE11_8 ?sE11_9 ?sE11_10 ?sE11_11 ?sE11_12 ?sE11_13 ?sE11_14 ?sE11_P ?bE11 ?vE11 ?kE11 ?h1E11 ?h2E11 ?h3E11 ?h4E11 ?h5E11 ?sE12_0 ?sE12_1 ?sE12_2 ?sE12_3 ?sE12_4 ?sE12_5 ?sE12_6 ?sE12_7 ?sE12_8 ?sE12_9 ?sE12_10 ?sE12_11 ?sE12_12 ?sE12_13 ?sE12_14 ?sE12_P ?bE12 ?vE12 ?kE12 ?h1E12 ?h2E12 ?h3E12 ?h4E12 ?h5E12 ?sE14_0 ?sE14_1 ?sE14_2 ?sE14_3 ?sE14_4 ?sE14_5 ?sE14_6 ?sE14_7 ?sE14_8 ?sE14_9 ?sE14_10 ?sE14_11 ?sE14_12 ?sE14_13 ?sE14_14 ?sE14_P ?bE14 ?vE14 ?kE14 ?h1E14 ?h2E14 ?h3E14 ?h4E14 ?h5E14 ?supG ?supT ?supA ?iS11 ?tS11 ?lS11 ?cS11 ?xS11 ?yS11 ?zS11 ?eS11 ?oS11 ?sS11 ?mS11 ?uS11 ?nS11_part ?nS11_index ?iS12 ?tS12 ?lS12 ?cS12 ?xS12 ?yS12 ?zS12 ?eS12 ?oS12 ?sS12 ?mS12 ?uS12 ?nS12_line ?iS14 ?tS14 ?lS14 ?cS14 ?xS14 ?yS14 ?zS14 ?eS14 ?oS14 ?sS14 ?mS14 ?uS14 ?nS14_place
    (case aCNet => k_is)
    (case aCOffice => k_is)
    (case a1 => k_is)
    (case l1 => k_is)
    (case c1 => k_is)
    (case k1 => k_is)
    (case a2 => k_is)
    (case l2 => k_is)
    (case c2 => k_is)
    (case k2 => k_is)
    (case a3 => k_is)
    (case l3 => k_is)
    (case c3 => k_is)
    (case k3 => k_is)
    (case a4 => k_is)
    (case l4 => k_is)
    (case c4 => k_is)
    (case k4 => k_is)
    (case a5 => k_is)
    (case l5 => k_is)
    (case c5 => k_is)
    (case k5 => k_is)
    (case a6 => k_is)
    (case l6 => k_is)
    (case c6 => k_is)
    (case k6 => k_is)
    (case a7 => k_is)
    (case l7 => k_is)
    (case c7 => k_is)
    (case k7 => k_is)
    (case a8 => k_is)
    (case l8 => k_is)
    (case c8 => k_is)
    (case k8 => k_is)
    (case a9 => k_is)
    (case l9 => k_is)
    (case c9 => k_is)
    (case k9 => k_is)
    (case a10 => k_is)
    (case l10 => k_is)
    (case c10 => k_is)
    (case k10 => k_is)
    (case a11 => k_is)
    (case l11 => k_is)
    (case c11 => k_is)
    (case k11 => k_is)
    (case a12 => k_is)
    (case l12 => k_is)
    (case c12 => k_is)
    (case k12 => k_is)
    (case a13 => k_is)
    (case l13 => k_is)
    (case c13 => k_is)
    (case k13 => k_is)
    (case a14 => k_is)
    (case l14 => k_is)
    (case c14 => k_is)
    (case k14 => k_is)
    (case a15 => k_is)
    (case l15 => k_is)
    (case c15 => k_is)
    (case k15 => k_is)
    (case a16 => k_is)
    (case l16 => k_is)
    (case c16 => k_is)
    (case k16 => k_is)
    (case a17 => k_is)
    (case l17 => k_is)
    (case c17 => k_is)
    (case k17 => k_is)
    (case a18 => k_is)
    (case l18 => k_is)
    (case c18 => k_is)
    (case k18 => k_is)
    (case a19 => k_is)
    (case l19 => k_is)
    (case c19 => k_is)
    (case k19 => k_is)
    (case a20 => k_is)
    (case l20 => k_is)
    (case c20 => k_is)
    (case k20 => k_is)
    (case a21 => k_is)
    (case l21 => k_is)
    (case c21 => k_is)
    (case k21 => k_is)
    (case a22 => k_is)
    (case l22 => k_is)
    (case c22 => k_is)
    (case k22 => k_is)
    (case a23 => k_is)
    (case i23 => k_is)
    (case l23 => k_is)
    (case c23 => k_is)
    (case k23 => k_is)
    (case a24 => k_is)
    (case pg24 => k_is)
    (case pt24 => k_is)
    (case pc24 => k_is)
    (case l24 => k_is)
    (case c24 => k_is)
    (case k24 => k_is)
    (case a25 => k_is)
    (case i25 => k_is)
    (case l25 => k_is)
    (case c25 => k_is)
    (case k25 => k_is)
    (case a26 => k_is)
    (case pg26 => k_is)
    (case pt26 => k_is)
    (case pc26 => k_is)
    (case l26 => k_is)
    (case c26 => k_is)
    (case k26 => k_is)
    (case a27 => k_is)
    (case i27 => k_is)
    (case l27 => k_is)
    (case c27 => k_is)
    (case k27 => k_is)
    (case a28 => k_is)
    (case i28 => k_is)
    (case l28 => k_is)
    (case c28 => k_is)
    (case k28 => k_is)
    (case a29 => k_is)
    (case i29 => k_is)
    (case l29 => k_is)
    (case c29 => k_is)
    (case k29 => k_is)
    (case a30 => k_is)
    (case i30 => k_is)
    (case l30 => k_is)
    (case c30 => k_is)
    (case k30 => k_is)
    (case a31 => k_is)
    (case i31 => k_is)
    (case l31 => k_is)
    (case c31 => k_is)
    (case k31 => k_is)
    (case a32 => k_is)
    (case i32 => k_is)
    (case l32 => k_is)
    (case c32 => k_is)
    (case k32 => k_is)
    (case a33 => k_is)
    (case i33 => k_is)
    (case l33 => k_is)
    (case c33 => k_is)
    (case k33 => k_is)
    (case a34 => k_is)
    (case i34 => k_is)
    (case l34 => k_is)
    (case c34 => k_is)
    (case k34 => k_is)
    (case a35 => k_is)
    (case pc35 => k_is)
    (case fi35 => k_is)
    (case l35 => k_is)
    (case c35 => k_is)
    (case k35 => k_is)
    (case a36 => k_is)
    (case pc36 => k_is)
    (case fi36 => k_is)
    (case l36 => k_is)
    (case c36 => k_is)
    (case k36 => k_is)
    (case rdNet => k_is)
    (case rgNet => k_is)
    (case rdOffice => k_is)
    (case rgOffice => k_is)
    (case pgNet => k_is)
    (case hdNet => k_is)
    (case poNet => k_is)
    (case saNet => k_is)
    (case mkNet => k_is)
    (case kcNet => k_is)
    (case nNet_period => k_is)
    (case nNet_houses => k_is)
    (case nNet_orders => k_is)
    (case nNet_followed => k_is)
    (case pgOffice => k_is)
    (case hdOffice => k_is)
    (case poOffice => k_is)
    (case saOffice => k_is)
    (case mkOffice => k_is)
    (case kcOffice => k_is)
    (case nOffice_net => k_is)
    (case nOffice_steps => k_is)
    (case nOffice_effective => k_is)
    (case nOffice_snapshots => k_is)
    (case vLONGEST_PERIOD => k_is)
    (case vMOST_HOUSES => k_is)
    (case vMOST_ORDERS => k_is)
    (case vLONGEST_DELAY => k_is)
    (case vMOST_DIGITS => k_is)
    (case gd_ARGUMENTS => k_is)
    (case ld_ARGUMENTS => k_is)
    (case kd_ARGUMENTS => k_keys)
    (case lo_ARGUMENTS => first | rfl | decide +kernel)
    (case vd_ARGUMENTS_0 => k_is)
    (case vd_ARGUMENTS_1 => k_is)
    (case vd_ARGUMENTS_2 => k_is)
    (case vd_ARGUMENTS_3 => k_is)
    (case vd_ARGUMENTS_4 => k_is)
    (case vd_ARGUMENTS_5 => k_is)
    (case gd_NUMBERS => k_is)
    (case ld_NUMBERS => k_is)
    (case kd_NUMBERS => k_keys)
    (case lo_NUMBERS => first | rfl | decide +kernel)
    (case vd_NUMBERS_0 => k_is)
    (case vd_NUMBERS_1 => k_is)
    (case vd_NUMBERS_2 => k_is)
    (case vd_NUMBERS_3 => k_is)
    (case vd_NUMBERS_4 => k_is)
    (case vd_NUMBERS_5 => k_is)
    (case vn_NUMBERS_net => k_is)
    (case vn_NUMBERS_4 => k_is)
    (case vn_NUMBERS_3 => k_is)
    (case vn_NUMBERS_order => k_is)
    (case vn_NUMBERS_0 => k_is)
    (case vn_NUMBERS_1 => k_is)
    (case vn_NUMBERS_2 => k_is)
    (case vn_NUMBERS_changes => k_is)
    (case vn_NUMBERS_9 => k_is)
    (case vn_NUMBERS_ => k_is)
    (case vn_NUMBERS_07 => k_is)
    (case vn_NUMBERS_5 => k_is)
    (case vn_NUMBERS_1000 => k_is)
    (case vn_NUMBERS_x => k_is)
    (case zlen => k_is)
    (case zrange => k_is)
    (case zisinstance => k_is)
    (case zint => k_is)
    (case zbool => k_is)
    (case zstr => k_is)
    (case ztuple => k_is)
    (case zlist => k_is)
    (case zall => k_is)
    (case zabs => k_is)
    (case zenumerate => k_is)
    (case tl => k_is)
    (case t11 => rfl)
    (case tP => first | rfl | decide +kernel)
    (case th => first | rfl | decide +kernel)
    (case gEP => k_is)
    (case iEP => k_is)
    (case tEP => k_is)
    (case bEP => k_is)
    (case zVE => k_is)
    (case gE0 => k_is)
    (case iE0 => k_is)
    (case tE0 => k_is)
    (case gE1 => k_is)
    (case iE1 => k_is)
    (case tE1 => k_is)
    (case gE2 => k_is)
    (case iE2 => k_is)
    (case tE2 => k_is)
    (case gE3 => k_is)
    (case iE3 => k_is)
    (case tE3 => k_is)
    (case gE4 => k_is)
    (case iE4 => k_is)
    (case tE4 => k_is)
    (case gE5 => k_is)
    (case iE5 => k_is)
    (case tE5 => k_is)
    (case gE6 => k_is)
    (case iE6 => k_is)
    (case tE6 => k_is)
    (case gE7 => k_is)
    (case iE7 => k_is)
    (case tE7 => k_is)
    (case gE8 => k_is)
    (case iE8 => k_is)
    (case tE8 => k_is)
    (case gE9 => k_is)
    (case iE9 => k_is)
    (case tE9 => k_is)
    (case gE10 => k_is)
    (case iE10 => k_is)
    (case tE10 => k_is)
    (case gE11 => k_is)
    (case iE11 => k_is)
    (case tE11 => k_is)
    (case gE12 => k_is)
    (case iE12 => k_is)
    (case tE12 => k_is)
    (case gE13 => k_is)
    (case iE13 => k_is)
    (case tE13 => k_is)
    (case gE14 => k_is)
    (case iE14 => k_is)
    (case tE14 => k_is)
    (case heN => k_is)
    (case heT => k_is)
    (case sE2_0 => k_is)
    (case sE2_1 => k_is)
    (case sE2_2 => k_is)
    (case sE2_3 => k_is)
    (case sE2_4 => k_is)
    (case sE2_5 => k_is)
    (case sE2_6 => k_is)
    (case sE2_7 => k_is)
    (case sE2_8 => k_is)
    (case sE2_9 => k_is)
    (case sE2_10 => k_is)
    (case sE2_11 => k_is)
    (case sE2_12 => k_is)
    (case sE2_13 => k_is)
    (case sE2_14 => k_is)
    (case sE2_P => k_is)
    (case bE2 => k_is)
    (case vE2 => k_is)
    (case kE2 => k_is)
    (case h1E2 => k_is)
    (case h2E2 => k_is)
    (case h3E2 => k_is)
    (case h4E2 => k_is)
    (case h5E2 => k_is)
    (case xE2 => k_exc)
    (case sE4_0 => k_is)
    (case sE4_1 => k_is)
    (case sE4_2 => k_is)
    (case sE4_3 => k_is)
    (case sE4_4 => k_is)
    (case sE4_5 => k_is)
    (case sE4_6 => k_is)
    (case sE4_7 => k_is)
    (case sE4_8 => k_is)
    (case sE4_9 => k_is)
    (case sE4_10 => k_is)
    (case sE4_11 => k_is)
    (case sE4_12 => k_is)
    (case sE4_13 => k_is)
    (case sE4_14 => k_is)
    (case sE4_P => k_is)
    (case bE4 => k_is)
    (case vE4 => k_is)
    (case kE4 => k_is)
    (case h1E4 => k_is)
    (case h2E4 => k_is)
    (case h3E4 => k_is)
    (case h4E4 => k_is)
    (case h5E4 => k_is)
    (case xE4 => k_exc)
    (case sE5_0 => k_is)
    (case sE5_1 => k_is)
    (case sE5_2 => k_is)
    (case sE5_3 => k_is)
    (case sE5_4 => k_is)
    (case sE5_5 => k_is)
    (case sE5_6 => k_is)
    (case sE5_7 => k_is)
    (case sE5_8 => k_is)
    (case sE5_9 => k_is)
    (case sE5_10 => k_is)
    (case sE5_11 => k_is)
    (case sE5_12 => k_is)
    (case sE5_13 => k_is)
    (case sE5_14 => k_is)
    (case sE5_P => k_is)
    (case bE5 => k_is)
    (case vE5 => k_is)
    (case kE5 => k_is)
    (case h1E5 => k_is)
    (case h2E5 => k_is)
    (case h3E5 => k_is)
    (case h4E5 => k_is)
    (case h5E5 => k_is)
    (case xE5 => k_exc)
    (case sE11_0 => k_is)
    (case sE11_1 => k_is)
    (case sE11_2 => k_is)
    (case sE11_3 => k_is)
    (case sE11_4 => k_is)
    (case sE11_5 => k_is)
    (case sE11_6 => k_is)
    (case sE11_7 => k_is)
    (case sE11_8 => k_is)
    (case sE11_9 => k_is)
    (case sE11_10 => k_is)
    (case sE11_11 => k_is)
    (case sE11_12 => k_is)
    (case sE11_13 => k_is)
    (case sE11_14 => k_is)
    (case sE11_P => k_is)
    (case bE11 => k_is)
    (case vE11 => k_is)
    (case kE11 => k_is)
    (case h1E11 => k_is)
    (case h2E11 => k_is)
    (case h3E11 => k_is)
    (case h4E11 => k_is)
    (case h5E11 => k_is)
    (case sE12_0 => k_is)
    (case sE12_1 => k_is)
    (case sE12_2 => k_is)
    (case sE12_3 => k_is)
    (case sE12_4 => k_is)
    (case sE12_5 => k_is)
    (case sE12_6 => k_is)
    (case sE12_7 => k_is)
    (case sE12_8 => k_is)
    (case sE12_9 => k_is)
    (case sE12_10 => k_is)
    (case sE12_11 => k_is)
    (case sE12_12 => k_is)
    (case sE12_13 => k_is)
    (case sE12_14 => k_is)
    (case sE12_P => k_is)
    (case bE12 => k_is)
    (case vE12 => k_is)
    (case kE12 => k_is)
    (case h1E12 => k_is)
    (case h2E12 => k_is)
    (case h3E12 => k_is)
    (case h4E12 => k_is)
    (case h5E12 => k_is)
    (case sE14_0 => k_is)
    (case sE14_1 => k_is)
    (case sE14_2 => k_is)
    (case sE14_3 => k_is)
    (case sE14_4 => k_is)
    (case sE14_5 => k_is)
    (case sE14_6 => k_is)
    (case sE14_7 => k_is)
    (case sE14_8 => k_is)
    (case sE14_9 => k_is)
    (case sE14_10 => k_is)
    (case sE14_11 => k_is)
    (case sE14_12 => k_is)
    (case sE14_13 => k_is)
    (case sE14_14 => k_is)
    (case sE14_P => k_is)
    (case bE14 => k_is)
    (case vE14 => k_is)
    (case kE14 => k_is)
    (case h1E14 => k_is)
    (case h2E14 => k_is)
    (case h3E14 => k_is)
    (case h4E14 => k_is)
    (case h5E14 => k_is)
    (case supG => k_is)
    (case supT => first | rfl | decide +kernel)
    (case supA => k_is)
    (case iS11 => k_is)
    (case tS11 => k_is)
    (case lS11 => k_is)
    (case cS11 => k_is)
    (case xS11 => k_is)
    (case yS11 => first | rfl | decide +kernel)
    (case zS11 => first | rfl | decide +kernel)
    (case eS11 => k_is)
    (case oS11 => first | rfl | decide +kernel)
    (case sS11 => k_is)
    (case mS11 => k_is)
    (case uS11 => first | rfl | decide +kernel)
    (case nS11_part => k_is)
    (case nS11_index => k_is)
    (case iS12 => k_is)
    (case tS12 => k_is)
    (case lS12 => k_is)
    (case cS12 => k_is)
    (case xS12 => k_is)
    (case yS12 => first | rfl | decide +kernel)
    (case zS12 => first | rfl | decide +kernel)
    (case eS12 => k_is)
    (case oS12 => first | rfl | decide +kernel)
    (case sS12 => k_is)
    (case mS12 => k_is)
    (case uS12 => first | rfl | decide +kernel)
    (case nS12_line => k_is)
    (case iS14 => k_is)
    (case tS14 => k_is)
    (case lS14 => k_is)
    (case cS14 => k_is)
    (case xS14 => k_is)
    (case yS14 => first | rfl | decide +kernel)
    (case zS14 => first | rfl | decide +kernel)
    (case eS14 => k_is)
    (case oS14 => first | rfl | decide +kernel)
    (case sS14 => k_is)
    (case mS14 => k_is)
    (case uS14 => first | rfl | decide +kernel)
    (case nS14_place => k_is)
