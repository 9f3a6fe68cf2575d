import PyProof.Rows.All
import Wide.All
import OpenK.AllK
import Wide.FinOn
import HandS.ForMost
import HandS.IsInst
import HandS.Property
import HandS.Codes
import HandS.Style
import HandS.WordsExc
import KE.KEqSeq
import HandS.Deep
import HandS.GenList
import HandS.GenYield
import KE.GoesMore
import PyProof.Draws
import KE.SortData
import KE.KUnpackStar
import HandS.CallLocal
import HandS.ClsMeth
import HandS.FStr
import HandS.StrMore
import KE.DataFind
import HandS.Conv
import HandS.SortInts
import KE.DataMinMax
import HandS.SortKw
import HandS.DictTup
import KE.KDictCopyH
import HandS.TupAny
import HandS.TupMul
import PySem.Challenge.RW_chasepost_k17_texts_of_nets
set_option Elab.async false
set_option linter.all false
set_option maxRecDepth 100000
namespace Cp
open PySem L2
def top (i : Nat) : Stmt := PySem.Challenge.pw_chasepost_k17_texts_of_nets.main.body.getD i (.Pass ⟨0, 0, 0, 0⟩)
/-! ### enumerate over a tuple: a walk for a for (the library's own serves lists) -/
section
open PyProof.Rows
open PySem.AutoSeq1 (wpAny_loadPart')
/-- what enumerate makes of a tuple: its iterator, then the enumerate object -/
abbrev enumHeap (g : Heap) (t : Addr) : Heap :=
  (g.push { cls := .type "tuple_iterator", data := .fields #[.ref t, .int 0 0] }).push { cls := .type "enumerate", data := .fields #[.none, .bool false, .ref g.objs.size, rawInt 0, .none, .none] }
theorem enumT_meets (t : Addr) (xs : Array Value) (k : Nat) (dd : Option Addr) (sv : Array (Option Value)) :
    Meets (Builtin.«enumerate.__new__» ⟨[.type "enumerate", .ref t], []⟩) (fun _ R s => s.heap.get? t = some { cls := .type "tuple", dict := dd, data := .seq xs k, slots := sv } ∧
      R (.ok (.ret (.ref (s.heap.objs.size + 1)))) { s with heap := enumHeap s.heap t }) :=
  .of_wp fun P1 w1 A1 R1 s1 h1 => by
    obtain ⟨hp, gg, dr, tks, oo⟩ := s1
    obtain ⟨ht, hR⟩ := h1
    have hz : (hp.push { cls := .type "tuple_iterator", data := .fields #[.ref t, .int 0 0] }).objs.size = hp.objs.size + 1 := Heap.size_push ..
    have subE := sub_enumerate
    have isT : Heap.IsTuple (Shared.heap ⟨hp, gg, dr, tks, oo⟩) t xs := ⟨_, ht, rfl, k, rfl⟩
    replace hR : R1 (.ok (.ret (.ref (hp.push { cls := .type "tuple_iterator", data := .fields #[.ref t, .int 0 0] }).objs.size))) ⟨enumHeap hp t, gg, dr, tks, oo⟩ := by rw [hz]; exact hR
    wp_walk using wpAny_loadPart' ht
    refine wpAny_stack_any fun stk => wpAny_pure ?_
    split
    · rename_i cc _ _ _ _ _
      cases (cc == Value.type "enumerate")
      · wp_walk using wpAny_loadPart' ht, wpAny_pyIter_tuple isT
        exact ⟨_, rfl, hR⟩
      · wp_walk using wpAny_loadPart' ht, wpAny_pyIter_tuple isT
        exact ⟨_, rfl, hR⟩
    · wp_walk using wpAny_loadPart' ht, wpAny_pyIter_tuple isT
      exact ⟨_, rfl, hR⟩
theorem enumT_call {P : Program} {w : World} {A : Around} {E : Value → Shared → Prop} {s : Shared} {t : Addr} {xs : Array Value} {Q : Value → Shared → Prop} (hT : s.heap.IsTuple t xs)
    (h : ∀ h', IsEnum h' (s.heap.objs.size + 1) s.heap.objs.size 0 .none → h'.IsTupleIter s.heap.objs.size t 0 → (∀ b o, s.heap.get? b = some o → h'.get? b = some o) → Q (.ref (s.heap.objs.size + 1)) { s with heap := h' }) :
    wpAny (model P w) A (call (.type "enumerate") [.ref t]) Q E s := by
  obtain ⟨⟨cv, dd, dv, sv⟩, ht, hc, k, hd⟩ := hT
  obtain rfl : cv = .type "tuple" := hc
  obtain rfl : dv = .seq xs k := hd
  refine callType_new F.called_enumerate (by decide) (F.typeCall_enumerate_1 _) (F.newCall_enumerate_1 _) (fun ob => F.args_object_init_2 ob _) F.entry_enumerate_new (enumT_meets t xs k dd sv) ⟨ht, ?_⟩
  have hz : (s.heap.push { cls := .type "tuple_iterator", data := .fields #[.ref t, .int 0 0] }).objs.size = s.heap.objs.size + 1 := Heap.size_push ..
  have q1 : IsEnum (enumHeap s.heap t) (s.heap.objs.size + 1) s.heap.objs.size 0 .none := by
    have q := Heap.get?_push_size (s.heap.push { cls := .type "tuple_iterator", data := .fields #[.ref t, .int 0 0] }) (o := { cls := .type "enumerate", data := .fields #[.none, .bool false, .ref s.heap.objs.size, rawInt 0, .none, .none] }) rfl
    rw [hz] at q
    exact q
  exact ⟨⟨_, q1, rfl⟩, h _ q1 ⟨_, Heap.get?_push_of_some _ (Heap.get?_push_size _ rfl), rfl, rfl⟩ fun b o x => Heap.get?_push_of_some _ (Heap.get?_push_of_some _ x)⟩
/-- the tuple at a as it stands, each item in a new pair with its number -/
def IteT (K : PySem.W.Frag) (a : Addr) : It :=
  ⟨fun i H => ∃ (xs : List V) (x : V), SqT K H a xs ∧ xs[i]? = some x, fun i H v H' => ∃ T x, v = .ref T ∧ H T = none ∧ H' = upd H T (.tup [.int (i : Nat), x]) ∧ ∀ xs, SqT K H a xs → xs[i]? = some x, fun i H => ∃ xs : List V, SqT K H a xs ∧ xs.length ≤ i⟩
theorem enumT_turn {P : Program} {w : World} {K : PySem.W.Frag} {elts : List Expr} {kk : Nat} {tpos : Pos} (a e it : Addr) (hai : a ≠ it) (hae : a ≠ e) :
    Turn P w K (.Tuple elts kk tpos) (IteT K a) [e, it] e (fun i h => (∃ old, IsEnum h e it ((i : Nat) : Int) old) ∧ h.IsTupleIter it a i ∧ e ≠ it) where
  mem := List.mem_cons_self
  obj := fun i h st b hb => by
    obtain ⟨⟨old, q1⟩, ⟨o, q2, _, q3⟩, _⟩ := st
    rcases List.mem_cons.mp hb with z | z
    · rw [z]
      exact ⟨_, q1, fun v q => nomatch q⟩
    · rw [List.mem_singleton.mp z]
      exact ⟨o, q2, fun v q => by rw [q3] at q; cases q⟩
  keep := fun i h h' st k => by
    obtain ⟨⟨old, q1⟩, ⟨o, q2, r⟩, q4⟩ := st
    exact ⟨⟨old, k e List.mem_cons_self _ q1⟩, ⟨o, k it (by simp) o q2, r⟩, q4⟩
  item := by
    rintro X rfl rfl rfl hc i pins s σ H E I hf ⟨⟨old, q1⟩, q2, q3⟩ ⟨xs, x, hq, hx⟩
    obtain ⟨its, rv, p, hz⟩ := I.tuple hq
    obtain ⟨u, hu, ru⟩ := rv.get hx
    have hel : e < s.heap.objs.size := Heap.lt_size q1
    have hil : it < s.heap.objs.size := by
      obtain ⟨_, q, _⟩ := q2
      exact Heap.lt_size q
    have tup : s.heap.IsTuple a its.toArray := p
    have hlt : i < its.toArray.size := by
      have z := (List.getElem?_eq_some_iff.mp hu).1
      simpa using z
    have D : Draws X.prog X.w X.A.in1 it [it, a] its.toArray.size (fun i v => its.toArray[i]? = some v) (fun i h => h.IsTupleIter it a i ∧ h.IsTuple a its.toArray) := Draws.tuple (by exact I.ok.hd hc) it a hai its.toArray
    refine wpAny_pyNext_enum_itemD D q1 ⟨q2, tup⟩ hlt q3 (by simp [q3, hae.symm]) fun y h' tk hP ho st' hT hsz hk => ?_
    obtain rfl : y = u := by
      have z : its.toArray[i]? = some u := by simpa using hu
      exact Option.some.inj (hP.symm.trans z)
    refine ⟨_, rfl, wpAny_letOwnedTupleGo_enum (s := { s with heap := h', toks := tk + 1 }) ho fun h2 q5 sb => ?_⟩
    have hT2 : h2.get? s.heap.objs.size = some { cls := .type "tuple", data := .seq #[.int i tk, y] } := (sb.2 _ (Nat.ne_of_gt hel)).trans hT
    have new : ObjOk X.prog X.w (upd H s.heap.objs.size (.tup [.int (i : Nat), x])) h2 s.heap.objs.size (.tup [.int (i : Nat), x]) :=
      ⟨by show 2 ≤ sizeLine; decide, [.int i tk, y], .cons ⟨_, rfl⟩ (.cons ru .nil), ⟨_, hT2, rfl, _, rfl⟩⟩
    have I2 : Inv X pins σ (upd H s.heap.objs.size (.tup [.int (i : Nat), x])) { s with heap := h2, toks := tk + 1 } :=
      I.turnedNew (ch := [e, it]) (fun b ob hb q => (sb.2 b (fun z => hb (by simp [z]))).trans (hk b ob (fun z => hb (by simp [z])) (fun z => hb (by simp [z])) q)) hf (Nat.le_refl _) new
    refine ⟨.ref s.heap.objs.size, _, I2, rfl, ⟨_, x, rfl, I.hok.fresh (Nat.le_refl _), rfl, fun ys hy => by rw [I.tuple_inj hy hq]; exact hx⟩, ⟨⟨y, ?_⟩, ?_, q3⟩, fun b hb => ?_⟩
    · rw [show ((i + 1 : Nat) : Int) = (i : Int) + 1 by omega]
      exact q5
    · obtain ⟨o, z, r⟩ := st'.1
      exact ⟨o, (sb.2 it (Ne.symm q3)).trans z, r⟩
    · have hb2 : b < s.heap.objs.size := by
        rcases List.mem_cons.mp hb with z | z
        · rw [z]; exact hel
        · rw [List.mem_singleton.mp z]; exact hil
      rw [upd_ne (Nat.ne_of_lt hb2)]
      exact (hf b hb).1
  done := by
    rintro X rfl rfl rfl hc i pins s σ H E I hf ⟨⟨old, q1⟩, q2, q3⟩ ⟨xs, hq, hx⟩
    obtain ⟨its, rv, p, hz⟩ := I.tuple hq
    obtain ⟨f0, f1, f2, f3, f4, f5⟩ := hf it (by simp)
    have hl := rv.length
    have tup : s.heap.IsTuple a its.toArray := p
    have hT : s.TypeIs (.ref e) "enumerate" := ⟨_, q1, rfl⟩
    unfold pyNext
    refine wpAny_bind (wpAny_attempt (wpAny_callSpecial?_slot (name := Str.ofString "__next__") hT F.slot_enumerate_next (wpAny_call_entry F.slot_enumerate_next hT F.entry_enumerate_next ?_ (F.args_enumerate_next_1 _))))
    show wpAny _ _ (field (.ref e) 2 >>= _) _ _ _
    refine wpAny_bind (wpAny_field q1 rfl (x := .ref it) rfl ?_)
    refine wpAny_bind (wpAny_nextOf_tuple_end (by exact I.ok.hd hc) q2 tup (by simp; omega) fun h' x eb hx' => ?_)
    obtain ⟨o, ho, hc'⟩ := hx'
    refine wpAny_bind (wpAny_isInstance (T := "StopIteration") (b := true) ⟨o, ho, hc'⟩ isSubtype_stop ?_)
    exact wpAny_pure ⟨rfl, I.turned (t' := s.toks) (fun b o hb q => eb b o hb q) f0 f1 f3 f4 f5⟩
  self := fun A i s Q E st h => wpAny_pyIter_enum st.1.choose_spec h
def iEnumT (K : PySem.W.Frag) (ta : TA) : TI := fun σ H R => ta σ H fun vs H1 => ∃ a xs, vs = [.ref a] ∧ H1 a = some (.tup xs) ∧ R (IteT K a) H1
theorem pi_enumT {X : Cx} {e : Expr} {ta : TA} {p pos tpos : Pos} {elts : List Expr} {kk : Nat} (hg : Gl X "enumerate") (hm : X.mg "enumerate" = none) (ha : PA X [e] ta) (hs : starEach [e] X.env = [(false, eval e X.env)] := by rfl) :
    PI X (.Tuple elts kk tpos) (.Call (.Name "enumerate" p) [e] [] pos) (iEnumT X.K ta) := by
  refine ⟨fun pins s σ H R I h => ?_⟩
  refine Call_ (ld_blt I hg hm boot_enumerate (PyProof.Rows.callWith_type1 (thn (ha.run pos pins s σ H _ I h) fun us s1 ⟨vs, H1, I1, r1, q1⟩ => ?_) hs rfl))
  obtain ⟨a, xs, rfl, hq, q⟩ := q1
  cases r1 with
  | cons r rr =>
    cases rr
    cases r
    obtain ⟨its, rv, p2, hz⟩ := I1.tuple (.inl (.inl hq))
    have tup : s1.heap.IsTuple a its.toArray := p2
    have hal : a < s1.heap.objs.size := p2.lt
    refine enumT_call tup fun h' q1 q2 hk => wpAny_pyIter_enum q1 ?_
    have I2 : Inv X pins σ H1 { s1 with heap := h' } := I1.kept (t' := s1.toks) hk
    refine ⟨s1.heap.objs.size + 1, [s1.heap.objs.size + 1, s1.heap.objs.size], _, _, H1, rfl, I2, enumT_turn a (s1.heap.objs.size + 1) s1.heap.objs.size (Nat.ne_of_lt hal) (Nat.ne_of_lt (Nat.lt_succ_of_lt hal)), ⟨⟨.none, q1⟩, q2, Nat.succ_ne_self _⟩, fun b hb => ?_, q⟩
    have hle : s1.heap.objs.size ≤ b := by
      rcases List.mem_cons.mp hb with z | z
      · rw [z]; exact Nat.le_add_right _ _
      · rw [List.mem_singleton.mp z]; exact Nat.le_refl _
    exact I1.fpOk hle (I1.hok.fresh hle)
end
/-! ### a, *b = xs; a call of a class that a local name holds -/
section
open PyProof.Rows PySem.Spec
theorem star_run {P : Program} {w : World} {A : Around} {E : Value → Shared → Prop} {s : Shared} {l : Addr} {items : Array Value} {Q : List Value → Shared → Prop} (hl : s.heap.IsList l items) (hh : A.handled = none) (hn : 1 ≤ items.size) (hz : items.size ≤ 16384)
    (h : ∀ D h' tk, s.heap.get? D = none → (∀ b o, s.heap.get? b = some o → h'.get? b = some o) → h'.get? D = some (seqObj "list" (items.toList.drop 1).toArray 0) → Q (items.toList.take 1 ++ [.ref D]) { s with heap := h', toks := tk }) : wpAny (model P w) A (unpackItems (.ref l) 2 (some 1)) Q E s := by
  have hlt : l ≠ s.heap.objs.size := by obtain ⟨o, ho, _⟩ := hl; exact Nat.ne_of_lt (Heap.lt_size ho)
  unfold unpackItems
  refine wpAny_bind ?_
  unfold notIterableAtAll
  refine wpAny_bind (wpAny_specialOf hl.typeIs slot_list_iter.lookup ?_)
  refine wpAny_pure ?_
  simp only [Bool.false_eq_true, if_false]
  refine wpAny_bind (wpAny_holding (wpAny_pyIter_list hl ?_))
  refine wpAny_bind (wpAny_holding (PySem.W.kun_draw hlt 1 0 _ _ ⟨_, Heap.get?_push_size _ rfl, rfl, rfl⟩ (hl.push _) (by omega) fun h₁ hit₁ hs₁ => ?_))
  have hl₁ : h₁.IsList l items := (hl.push _).extBut hs₁.extBut hlt
  rw [Nat.zero_add] at hit₁
  have hit₁' := hit₁
  obtain ⟨oi, hoi, _⟩ := hit₁'
  have hl₁' := hl₁
  obtain ⟨ol, hol, _⟩ := hl₁'
  rw [List.drop_zero]
  have hfl : (items.toList.take 1).length = 1 := by rw [List.length_take, Array.length_toList]; omega
  rw [if_neg (show ¬ ((items.toList.take 1).length < 1) by rw [hfl]; omega)]
  refine wpAny_bind (wpAny_holding (PySem.W.kun_collect (s := { s with heap := h₁ }) (T := "list_iterator") (.inr (.inr (.inl rfl))) (Walks.list (A := A.in1) hh s.heap.objs.size l hlt items) (fun j u st => st.1.typeIs) (k := 1) (by omega) ⟨hit₁, hl₁⟩ (Heap.lt_size hoi) (Heap.lt_size hol) (fun h₂ tk hk => ?_) (by rw [sizeLine_eq]; omega)))
  have hrl : (items.toList.drop 1).length = items.size - 1 := by rw [List.length_drop, Array.length_toList]
  show wpAny _ _ (if (items.toList.drop 1).length < 2 - 1 - 1 then _ else _) _ _ _
  rw [if_neg (by omega)]
  show wpAny _ _ (newList ((items.toList.drop 1).take ((items.toList.drop 1).length - (2 - 1 - 1))) >>= fun d => pure (items.toList.take 1 ++ [d] ++ (items.toList.drop 1).drop ((items.toList.drop 1).length - (2 - 1 - 1)))) _ _ _
  rw [show (items.toList.drop 1).length - (2 - 1 - 1) = (items.toList.drop 1).length by omega, List.take_length, List.drop_length]
  have he : ∀ b o, s.heap.get? b = some o → h₂.get? b = some o := fun b o e => hk b o (Nat.ne_of_lt (Heap.lt_size e)) (hs₁.extBut b o (Nat.ne_of_lt (Heap.lt_size e)) (Heap.get?_push_of_some _ e))
  have hsz : s.heap.get? h₂.objs.size = none := by
    cases e : s.heap.get? h₂.objs.size with
    | none => rfl
    | some o => exact absurd (Heap.lt_size (he _ _ e)) (Nat.lt_irrefl _)
  refine wpAny_bind (wpAny_newList (wpAny_pure (by rw [List.append_nil]; exact h _ _ tk hsz (fun b o e => Heap.get?_push_of_some _ (he b o e)) (Heap.get?_push_size _ rfl))) (by rw [hrl, sizeLine_eq]; omega))
theorem objOk_some {P : Program} {w : World} {H : Hp} {h : Heap} {a : Addr} {o : HO} (x : ObjOk P w H h a o) : ∃ u, h.get? a = some u := by
  cases o with
  | lst xs => obtain ⟨_, _, _, _, e⟩ := x; exact ⟨_, e⟩
  | tup xs => obtain ⟨_, _, _, _, e, _⟩ := x; exact ⟨_, e⟩
  | dK kvs => obtain ⟨_, _, _, _, o, _, _, e, _⟩ := x; exact ⟨_, e⟩
  | dT kvs => obtain ⟨_, _, _, _, o, _, _, e, _⟩ := x; exact ⟨_, e⟩
  | set S n => obtain ⟨o, _, _, _, e, _⟩ := x; exact ⟨_, e⟩
  | ins C dx fs => obtain ⟨_, _, _, e, _⟩ := x; exact ⟨_, e⟩
  | own y => obtain ⟨_, e⟩ := x; exact ⟨_, e⟩
  | xd fs => obtain ⟨_, ⟨_, _, _, e, _⟩, _⟩ := x; exact ⟨_, e⟩
  | rng lo hi => obtain ⟨_, _, _, e⟩ := x; exact ⟨_, e⟩
  | frz ob u => obtain ⟨e, _⟩ := x; exact ⟨_, e⟩
  | tbl ps => exact ⟨_, show h.get? a = some _ from x⟩
  | met f y => exact ⟨_, show h.get? a = some _ from x⟩
  | ext φ => obtain ⟨_, ⟨_, e⟩, _⟩ := x; exact ⟨_, e⟩
theorem hok_free {P : Program} {w : World} {H : Hp} {h : Heap} {a : Addr} (x : HOk P w H h) (e : h.get? a = none) : H a = none := by
  cases q : H a with
  | none => rfl
  | some o =>
    obtain ⟨u, hu⟩ := objOk_some (x a o q)
    rw [e] at hu
    cases hu
theorem un_laid {fs ex : List Addr} {H : Hp} {a : Addr} {o : HO} {h h' : Heap} (k : ∀ b u, h.get? b = some u → h'.get? b = some u) (hp : h.get? a = none) (hn : H a = none) : Un fs ex H (L2.upd H a o) h h' where
  keep := fun b u q _ _ _ => k b u q
  slot := fun b u q _ _ _ => ⟨u.slots, k b u q⟩
  free := fun b u q n _ => by rw [upd_ne (fun z => by rw [z, hp] at q; cases q)]; exact n
  there := fun b u q _ => ⟨u, k b u q⟩
  tups := fun b xs q => by rw [upd_ne (ne_of_none q hn)]; exact q
  frzs := fun b u xs q => by rw [upd_ne (ne_of_none q hn)]; exact q
  tbls := fun b ps q => ⟨#[], by rw [upd_ne (ne_of_none q hn), q]; simp⟩
theorem hok_laid {P : Program} {w : World} {H : Hp} {a : Addr} {o : HO} {h h' : Heap} (x : HOk P w H h) (k : ∀ b u, h.get? b = some u → h'.get? b = some u) (hn : H a = none) (new : ObjOk P w (L2.upd H a o) h' a o) : HOk P w (L2.upd H a o) h' := fun b u e => by
  by_cases hb : b = a
  · subst hb; rw [upd_same] at e; cases e; exact new
  · rw [upd_ne hb] at e
    exact (x b u e).stay (fun c v _ q => k c v q) (fun c q => by rw [upd_ne (ne_of_none q hn)]; exact q) fun c xs q => by rw [upd_ne (ne_of_none q hn)]; exact q
/-- a, *b = xs -/
def gStar1 (K : PySem.W.Frag) (t : TGs) : TG := fun v σ H Q => ∃ a x xs, v = .ref a ∧ SqL K H a (x :: xs) ∧ xs.length ≤ 1000 ∧ ∀ D, H D = none → t [x, .ref D] σ (L2.upd H D (.lst xs)) Q
theorem pgs_star {X : Cx} {e : Expr} {es : List Expr} {p : Pos} {t : TG} {u : TGs} (h1 : PG X e t) (h2 : PGs X es u)
    (hs : (assignEach (.Starred e p :: es) X.env).map (·.2) = assign e X.env :: (assignEach es X.env).map (·.2) := by rfl) : PGs X (.Starred e p :: es) (gCons t u) := by
  refine ⟨fun pins s σ H vs us Q I r h => ?_⟩
  obtain ⟨v, vr, e1, h⟩ := h
  subst e1
  cases r with
  | cons r rr =>
    rw [hs]
    refine assignInOrder_cons (thn (h1.run pins s σ H _ _ _ I r h) fun _ s1 ⟨σ1, H1, I1, q1⟩ => ?_)
    exact h2.run pins s1 σ1 H1 _ _ Q I1 rr q1
theorem pg_star1 {X : Cx} {es : List Expr} {k : Nat} {pos : Pos} {t : TGs} (hc : X.calm = true) (h : PGs X es t)
    (hn : (assignEach es X.env).length = 2 := by rfl) (hst : (assignEach es X.env).findIdx? (·.1) = some 1 := by rfl) : PG X (.Tuple es k pos) (gStar1 X.K t) := by
  refine ⟨fun pins s σ H v u Q I r hw => ?_⟩
  obtain ⟨a, x, xs, e1, hq, hl, hw⟩ := hw
  subst e1
  cases r
  obtain ⟨its, rv, pl, hz⟩ := I.list hq
  have hlen := rv.length
  rw [List.length_cons] at hlen
  rw [PyProof.Rows.assign_Tuple]
  refine wpAny_bind (wpAny_standAt ?_)
  unfold unpack
  rw [hn, hst]
  refine wpAny_bind (wpAny_holding (star_run pl.isList (I.ok.hd hc) (by rw [List.size_toArray]; omega) (by rw [List.size_toArray]; omega) fun D h' tk hD keep hl' => ?_))
  cases rv with
  | cons rx rxs =>
    rename_i ux uxs
    have hfr := hok_free I.hok hD
    have I1 : Inv X pins σ (L2.upd H D (.lst xs)) { s with heap := h', toks := tk } := I.un (un_laid keep hD hfr) (hok_laid I.hok keep hfr (show ObjOk X.prog X.w _ h' D (.lst xs) from ⟨by rw [sizeLine_eq]; omega, uxs, 0, rxs, hl'⟩))
    exact h.run pins _ σ _ _ _ Q I1 (.cons rx (.cons (show RelV (V.ref D) (Value.ref D) from rfl) .nil)) (hw D hfr)
/-- cls(e, ..), cls a local name -/
def tMakeL (i : Nat) (C : Addr) (sp : Sp) (dvs : List V) (E : XK) (t : TA) : TE := fun σ H Q => σ[i]? = some (some (.ref C)) ∧ tMake C sp dvs E t σ H Q
theorem pe_makeL {X : Cx} {CX : CXT} {k i : Nat} {C f : Addr} {fd : FuncData} {ps : List Str} {sp : Sp} {dvs : List V} {ds : List Value} {E : XK} {x : Str} {p pos : Pos} {e : Expr} {es : List Expr} {t : TA}
    (M : Mk X.K C f) (F : FnOk X.prog X.w X.K X.mg X.base CX k f fd ps sp) (hr : Room (k + 1) X.A) (hN : X.N[i]? = some x) (hv : Vis X.env.scope x) (hb : Binds X.K fd ps ds) (hd : Vals dvs ds) (hx : Passes CX X E)
    (ha : PA X (e :: es) t) (hdb : (x == ("__debug__" : Str)) = false := by decide) (hcd : (x == ("__classdict__" : Str)) = false := by decide) (he : starEach (e :: es) X.env = (false, eval e X.env) :: starEach es X.env := by rfl) (hpl : (backTo pos (starEach es X.env)).any (·.1) = false := by rfl) :
    PE X (.Call (.Name x p) (e :: es) [] pos) (tMakeL i C sp dvs E t) := by
  refine ⟨fun pins s σ H Q I h => ?_⟩
  obtain ⟨hs, ht⟩ := h
  refine wpAny_Call_Name_kw (thn ((pe_var (pos := p) hN hv hdb hcd).run pins s σ H (fun v H1 => v = .ref C ∧ H1 = H) I ⟨.ref C, hs, rfl, rfl⟩) fun u s1 ⟨v, H1, I1, r1, q1⟩ => ?_)
  obtain ⟨rfl, rfl⟩ := q1
  cases r1
  refine PySem.W.callWith_K (h₀ := X.base) I.ok.mod.kin M.kp (thn (ha.run pos pins s1 σ _ _ I1 ht) fun us s2 ⟨vs, H2, I2, r, q⟩ => ⟨I2.kIn, ?_⟩) he hpl
  exact run_make M F hr hb hd hx I2 r q
end
/-! ### min and sorted of data, nested to any depth -/
section
open PySem.Spec PyProof.Rows
open PySem.W (alike alikeAll dataLt minD AlikeAll AllAlike Sortable EachIs sorted_data min_list_data readsAll_atA alike_unique dataLe)
/-- min(xs), xs a list of data that are alike -/
def rMinD (K : PySem.W.Frag) : List V → Hp → VK → Prop := fun vs H Q => ∃ (a : Addr) (xs : List V) (d : PyData) (ds : List PyData), vs = [V.ref a] ∧ SqL K H a xs ∧ DpAll K H xs (d :: ds) ∧ AlikeAll (d :: ds) ∧ PyData.depthAll (d :: ds) ≤ 60 ∧
  ∀ (i : Nat) x, xs[i]? = some x → (d :: ds)[i]? = some (minD d ds) → Q x H
theorem minD_mem : ∀ (ds : List PyData) (d : PyData), minD d ds ∈ d :: ds
  | [], d => List.mem_cons_self
  | e :: r, d => by
    show minD (if dataLt e d = true then e else d) r ∈ _
    have h := minD_mem r (if dataLt e d = true then e else d)
    rcases List.mem_cons.mp h with z | z
    · rw [z]
      split <;> simp
    · exact List.mem_cons_of_mem _ (List.mem_cons_of_mem _ z)
theorem cr_minD {X : Cx} (hc : X.calm = true) (hu : X.A.units + 65 < cLine) : CallR X (.builtin "min") (rMinD X.K) := by
  intro pins s σ H vs us Q I r h
  obtain ⟨a, xs, d, ds, rfl, hs, hd, ha, hdp, q⟩ := h
  obtain ⟨its, rv, hl, _⟩ := I.list hs
  rw [Vals.ref1 r]
  obtain ⟨as, hr⟩ := Dp.readsAll I (d :: ds) xs its hd rv
  refine min_list_data (I.ok.hd hc) hl.isList hr ha (by omega) fun i v h' tk bs hi rd hk => ?_
  have hi2 : its[i]? = some v := by simpa using hi
  have hil : i < xs.length := by
    rw [rv.length]
    exact (List.getElem?_eq_some_iff.mp hi2).1
  obtain ⟨u, hu2, ru⟩ := rv.get (List.getElem?_eq_getElem hil)
  obtain rfl : u = v := Option.some.inj (hu2.symm.trans hi2)
  obtain ⟨cs, rc, lt, mem, _⟩ := readsAll_atA hr i u hi
  have rd' := Reads.keeps hk rc
  have e : (d :: ds).getD i .none = minD d ds := alike_unique _ _ _ _ _ (ha.1 _ mem _ (minD_mem ds d)) rd' rd
  refine ⟨_, H, I.kept (t' := tk) hk, ru, q i _ (List.getElem?_eq_getElem hil) ?_⟩
  rw [← e, List.getD_eq_getElem?_getD, List.getElem?_eq_getElem lt]
  rfl
/-- sorted(xs), xs a list of data that are alike: a new list; R: what is known of each item -/
def rSortedD {β : Type} (enc : β → PyData) (K : PySem.W.Frag) : List V → Hp → VK → Prop := fun vs H Q => ∃ (a : Addr) (xs : List V) (bs : List β) (R : V → β → Prop), vs = [V.ref a] ∧ SqL K H a xs ∧ Paired R xs bs ∧ DpAll K H xs (bs.map enc) ∧ AllAlike (bs.map enc) ∧ Sortable (bs.map enc) ∧ (∀ b ∈ bs, (enc b).depth ≤ 60) ∧
  ∀ ys p, Paired R ys (bs.mergeSort (dataLe false enc)) → H p = none → Q (.ref p) (L2.upd H p (.lst ys))
theorem each_pairs {β : Type} {R : Value → β → Prop} {F : V → β → Prop} (h : ∀ v b, R v b → ∃ x, RelV x v ∧ F x b) : ∀ {out : List Value} {bs : List β}, EachIs R out bs → ∃ ys, Vals ys out ∧ Paired F ys bs
  | _, _, .nil => ⟨[], .nil, .nil⟩
  | _, _, .cons r t => by
    obtain ⟨ys, h1, h2⟩ := each_pairs h t
    obtain ⟨x, h3, h4⟩ := h _ _ r
    exact ⟨x :: ys, .cons h3 h1, .cons h4 h2⟩
theorem each_of {β : Type} {K : PySem.W.Frag} {H : Hp} {enc : β → PyData} {R : V → β → Prop} {R' : Value → β → Prop} : ∀ {xs : List V} {us : List Value} {bs : List β}, Vals xs us → Paired R xs bs → DpAll K H xs (bs.map enc) → (∀ x u b, RelV x u → R x b → Dp K H x (enc b) → R' u b) → EachIs R' us bs
  | _, _, [], rv, hr, hd, _ => by
    cases hd
    cases rv
    exact .nil
  | _, _, b :: bs, rv, hr, hd, h => by
    cases hd with
    | cons q t =>
      cases rv with
      | cons r rt =>
        cases hr with
        | cons p pt => exact .cons (h _ _ _ r p q) (each_of rt pt t h)
theorem cr_sortedD {β : Type} {X : Cx} (enc : β → PyData) (hu : X.A.units + 65 < cLine) : CallR X (.builtin "sorted") (rSortedD enc X.K) := by
  intro pins s σ H vs us Q I r h
  obtain ⟨a, xs, bs, R, rfl, hs, hR, hd, hal, hk, hdp, q⟩ := h
  obtain ⟨its, rv, hl, hz⟩ := I.list hs
  rw [Vals.ref1 r]
  have e1 : EachIs (fun v b => ∃ x, RelV x v ∧ R x b) its bs := each_of rv hR hd fun x u b hr hx _ => ⟨x, hr, hx⟩
  have e2 : EachIs (fun v b => ∃ as, Reads s.heap v (enc b) as) its bs := each_of rv hR hd fun x u b hr _ hd => Dp.reads I _ _ _ hd hr
  have hl2 := e1.length
  refine sorted_data hl.isList e1 e2 hal hk (by rw [← hl2, ← rv.length]; exact hz) (fun b hb => by have := hdp b hb; omega) fun out ho eo => ?_
  obtain ⟨ys, h1, h2⟩ := each_pairs (F := R) (fun v b ⟨x, a1, a2⟩ => ⟨x, a1, a2⟩) eo
  obtain ⟨ep, he'⟩ := PyProof.Rows.sortedAll_at s.heap its out.toArray
  have hlen : ys.length ≤ sizeLine := by
    rw [h1.length, ho, ← hl2, ← rv.length]
    exact hz
  exact ⟨.ref _, L2.upd H (s.heap.objs.size + 1) (.lst ys), I.laid (t' := s.toks) (fun _ _ => PyProof.Rows.sortedAll_old) (Nat.le_succ _) ⟨hlen, out, ep, h1, he'⟩, rfl, q ys _ h2 (I.hok.fresh (Nat.le_succ _))⟩
end
/-! ### xs.count(x), x data of any depth -/
section
open PySem.Spec PyProof.Rows
def rCntD (K : PySem.W.Frag) : V → List V → Hp → VK → Prop := fun x xs H Q => ∃ (a : Addr) (ys : List V) (y : V) (d : PyData) (ds : List PyData), x = V.ref a ∧ xs = [y] ∧ SqL K H a ys ∧ DpAll K H ys ds ∧ Dp K H y d ∧ PyData.plainAll ds = true ∧ d.plain = true ∧ d.depth ≤ 60 ∧ Q (.int ((ds.countP fun z => PyData.eqv z d : Nat) : Int)) H
theorem mt_countD {X : Cx} (hu : X.A.units + 65 < cLine) : MtR X "list.count" (rCntD X.K) := by
  intro pins s σ H x xs v us Q I rx rxs h
  obtain ⟨a, ys, y, d, ds, rfl, rfl, hl, hds, hd, p1, p2, hdp, q⟩ := h
  cases rx
  cases rxs with
  | cons ry rt =>
    rename_i uy ut
    cases rt
    obtain ⟨bs, r1⟩ := Dp.reads I d y uy hd ry
    obtain ⟨its, rv, hL, _⟩ := I.list hl
    obtain ⟨as, hr⟩ := Dp.readsAll I ds ys its hds rv
    refine PySem.SeqAt.count_list_data hL.isList hr r1 p1 p2 (by omega) ⟨.int _, H, I.tok _, ⟨_, rfl⟩, q⟩
end
/-! ### max(xs, default=d), xs a list of ints -/
section
open PySem.Spec PyProof.Rows
open PySem.W (alike alikeAll dataLt maxD AlikeAll max_list_default)
def rMaxDef (K : PySem.W.Frag) : List V → List V → Hp → VK → Prop := fun vs zs H Q => ∃ (a : Addr) (ns : List Int) (d : V), vs = [V.ref a] ∧ zs = [d] ∧ SqL K H a (ns.map V.int) ∧ (ns = [] → Q d H) ∧ ∀ m, m ∈ ns → (∀ y, y ∈ ns → y ≤ m) → Q (.int m) H
def maxI (x : Int) (xs : List Int) : Int := xs.foldl (fun a y => if a < y then y else a) x
theorem maxI_spec : ∀ (xs : List Int) (x : Int), maxI x xs ∈ x :: xs ∧ ∀ y ∈ x :: xs, y ≤ maxI x xs
  | [], x => ⟨List.mem_cons_self, fun y hy => by rw [List.mem_singleton.mp hy]; exact Int.le_refl _⟩
  | z :: r, x => by
    obtain ⟨h1, h2⟩ := maxI_spec r (if x < z then z else x)
    have e : maxI x (z :: r) = maxI (if x < z then z else x) r := rfl
    rw [e]
    have h3 := h2 _ List.mem_cons_self
    refine ⟨?_, fun y hy => ?_⟩
    · rcases List.mem_cons.mp h1 with q | q
      · rw [q]
        split <;> simp
      · exact List.mem_cons_of_mem _ (List.mem_cons_of_mem _ q)
    · rcases List.mem_cons.mp hy with q | q
      · rw [q]
        split at h3 <;> rename_i c
        · rw [if_pos c]; omega
        · rw [if_neg c]; omega
      · rcases List.mem_cons.mp q with q | q
        · rw [q]
          split at h3 <;> rename_i c
          · rw [if_pos c]; omega
          · rw [if_neg c]; omega
        · exact h2 y (List.mem_cons_of_mem _ q)
theorem maxD_int : ∀ (xs : List Int) (x : Int), maxD (.int x) (xs.map PyData.int) = .int (maxI x xs)
  | [], x => rfl
  | y :: ys, x => by
    show maxD (if dataLt (.int x) (.int y) = true then .int y else .int x) (ys.map PyData.int) = .int (maxI (if x < y then y else x) ys)
    rw [PySem.W.dataLt_int]
    by_cases c : x < y
    · rw [if_pos (decide_eq_true c), if_pos c]
      exact maxD_int ys y
    · rw [if_neg (by rw [decide_eq_false c]; exact Bool.false_ne_true), if_neg c]
      exact maxD_int ys x
theorem ints_dp {K : PySem.W.Frag} {H : Hp} : ∀ ns : List Int, DpAll K H (ns.map V.int) (ns.map PyData.int)
  | [] => .nil
  | n :: ns => .cons (.int _) (ints_dp ns)
theorem ints_alike (ns : List Int) : AlikeAll (ns.map PyData.int) := by
  refine ⟨fun x hx y hy => ?_, fun x hx => ?_⟩
  · obtain ⟨s, _, rfl⟩ := List.mem_map.mp hx
    obtain ⟨t, _, rfl⟩ := List.mem_map.mp hy
    simp [alike]
  · obtain ⟨s, _, rfl⟩ := List.mem_map.mp hx
    intro e
    cases e
theorem ints_depth : ∀ ns : List Int, PyData.depthAll (ns.map PyData.int) = 0
  | [] => by simp [PyData.depthAll]
  | n :: ns => by simp [PyData.depthAll, PyData.depth, ints_depth ns]
theorem cr_maxDef {X : Cx} (hc : X.calm = true) (hu : X.A.units + 65 < cLine) : CallRK X (.builtin "max") [Str.ofString "default"] (rMaxDef X.K) := by
  intro pins s σ H vs zs us ws Q I r rz h
  obtain ⟨a, ns, d, rfl, rfl, hs, q0, q⟩ := h
  obtain ⟨its, rv, hl, _⟩ := I.list hs
  rw [Vals.ref1 r]
  cases rz with
  | cons rd rt =>
    cases rt
    rename_i dv
    obtain ⟨as, hr⟩ := Dp.readsAll I (ns.map PyData.int) (ns.map V.int) its (ints_dp ns) rv
    refine max_list_default (I.ok.hd hc) hl.isList hr (ints_alike ns) (by rw [ints_depth]; omega) (fun e h' tk hk => ?_) fun y ys i v h' tk bs e hi rd' hk => ?_
    · exact ⟨d, H, I.kept (t' := tk) hk, rd, q0 (List.map_eq_nil_iff.mp e)⟩
    · cases ns with
      | nil => cases e
      | cons n ns =>
        rw [List.map_cons] at e
        injection e with e1 e2
        subst e1
        subst e2
        rw [maxD_int] at rd'
        obtain ⟨m1, m2⟩ := maxI_spec ns n
        have hi2 : its[i]? = some v := by simpa using hi
        have hil : i < (List.map V.int (n :: ns)).length := by
          rw [rv.length]
          exact (List.getElem?_eq_some_iff.mp hi2).1
        obtain ⟨u, hu2, ru⟩ := rv.get (List.getElem?_eq_getElem hil)
        obtain rfl : u = v := Option.some.inj (hu2.symm.trans hi2)
        cases rd'
        exact ⟨.int _, H, I.kept (t' := tk) hk, ⟨_, rfl⟩, q _ m1 m2⟩
end
/-! ### d.values(), list(d.values()) of a dict whose keys are tuples -/
section
open PySem.Spec PyProof.Rows
/-- the view d.values() at p -/
def valsO (p d : Addr) : HO := .ext fun h => h.IsValuesView p d
theorem valsO_ok {P : Program} {w : World} {H : Hp} {h : Heap} {p d : Addr} (e : h.get? p = some { cls := .type "dict_values", data := .fields #[.ref d] }) : ObjOk P w H h p (valsO p d) :=
  ⟨⟨_, e, rfl, rfl⟩, ⟨_, e⟩, fun h1 h2 x k => let ⟨o, ho, r⟩ := x; ⟨o, k o ho, r⟩⟩
variable {X : Cx}
def rValuesT : V → List V → Hp → VK → Prop := fun x xs H Q => ∃ (a : Addr) (kvs : List (List L2.Key × V)), x = .ref a ∧ xs = [] ∧ H a = some (.dT kvs) ∧ ∀ p, H p = none → Q (.ref p) (L2.upd H p (valsO p a))
theorem mt_valuesT : MtR X "dict.values" rValuesT := by
  intro pins s σ H x xs v us Q I rx rxs h
  obtain ⟨a, kvs, rfl, rfl, ha, q⟩ := h
  cases rx
  cases rxs
  obtain ⟨z, hd, xs', rel, o, es, ep, ho, hx, hdat, _⟩ := dt_of I.hok ha
  have raw : s.heap.DictRaw a es ep := ⟨o, ho, hx, hdat⟩
  refine call_meetsIn PySem.F.slot_dict_values raw.typeIs PySem.F.entry_dict_values (PySem.F.args_dict_values_1 _) (PySem.meets_dict_values_raw a hd) ⟨⟨es, ep, raw⟩, ?_⟩
  have hf : H s.heap.objs.size = none := I.hok.fresh (Nat.le_refl _)
  exact ⟨.ref s.heap.objs.size, L2.upd H s.heap.objs.size (valsO s.heap.objs.size a), I.laid (t' := s.toks) (fun b u e => Heap.get?_push_of_some _ e) (Nat.le_refl _) (valsO_ok (Heap.get?_push_size _ rfl)), rfl, q _ hf⟩
theorem kt_vals {H : Hp} : ∀ {kvs : List (List L2.Key × V)} {xs : List (List L2.Key × Addr × Value)}, KT H kvs xs → Vals (kvs.map (·.2)) (xs.map fun x => x.2.2)
  | _, _, .nil => .nil
  | _, _, .cons h t => .cons h.2.2 (kt_vals t)
theorem call_list_valuesT (hc : X.calm = true) : CallR X (.type "list") (fun xs H Q => ∃ (v d : Addr) (kvs : List (List L2.Key × V)), xs = [V.ref v] ∧ H v = some (valsO v d) ∧ H d = some (.dT kvs) ∧ ∀ p, H p = none → Q (.ref p) (L2.upd H p (.lst (kvs.map (·.2))))) := by
  intro pins s σ H xs us Q I r h
  obtain ⟨v, d, kvs, rfl, hv, hd, q⟩ := h
  obtain ⟨u, rfl, rx⟩ := r.one
  cases rx
  obtain ⟨z, hs, ks, pr, o, es, ep, ho, hx, hdt, he, hn⟩ := dt_of I.hok hd
  have hvv : s.heap.IsValuesView v d := (show ObjOk X.prog X.w H s.heap v (valsO v d) from I.hok v _ hv).1
  have raw : s.heap.DictRaw d es ep := ⟨o, ho, hx, hdt⟩
  have l1 : es.size = ks.length := size_of_entries he
  have l2 : kvs.length = ks.length := Paired.length pr
  refine PySem.W.kdl_call PySem.KdlSrc.rawValues (I.ok.hd hc) ⟨hvv, raw⟩ (by omega) fun h' tk acc' c' kp e it => ?_
  have ea : acc'.toList = ks.map fun x => x.2.2 := by
    have hl : acc'.toList.length = ks.length := by rw [Array.length_toList, it.1]; exact l1
    apply List.ext_getElem?
    intro j
    rw [List.getElem?_map]
    cases hj : acc'.toList[j]? with
    | none =>
      have h1 := List.getElem?_eq_none_iff.mp hj
      rw [List.getElem?_eq_none (by omega)]
      all_goals rfl
    | some v =>
      obtain ⟨hi, hv⟩ := it.2 j v (by rw [← Array.getElem?_toList]; exact hj)
      have qe := entry_at he j
      rw [Array.getElem?_eq_getElem hi] at qe
      cases hb : ks[j]? with
      | none =>
        rw [hb] at qe
        exact nomatch (show some es[j] = none from qe)
      | some b =>
        rw [hb] at qe
        have e2 : es[j] = entryOfKey (tupleKind (mixKind X.prog X.w)) b := Option.some.inj qe
        rw [hv, e2]
        all_goals rfl
  have rv : Vals (kvs.map (·.2)) acc'.toList := by
    rw [ea]
    exact kt_vals pr
  have hz : (kvs.map (·.2)).length ≤ sizeLine := by rw [List.length_map]; omega
  refine ⟨.ref s.heap.objs.size, _, I.laid (t' := tk) (o := .lst (kvs.map (·.2))) kp (Nat.le_refl _) ?_, rfl, q _ (I.hok.fresh (Nat.le_refl _))⟩
  exact ⟨hz, acc'.toList, c', rv, by rw [Array.toArray_toList]; exact e⟩
end
/-! ### xs * k of a tuple, k 0 or 1 -/
section
open PySem.Spec PyProof.Rows
theorem tuple_mul1 (l : Addr) (items : Array Value) (n : Nat) (dd : Option Addr) (sl : Array (Option Value)) (u : Tok) :
    Meets (Builtin.«tuple.__mul__» ⟨[.ref l, .int 1 u], []⟩) (fun _ R s => s.heap.get? l = some { cls := .type "tuple", dict := dd, data := .seq items n, slots := sl } ∧ R (.ok (.ret (.ref l))) s) :=
  .of_wp fun prog w A R s h => by
    obtain ⟨hp, g, d, tk, os⟩ := s
    obtain ⟨hl, h⟩ := h
    have f1 := AutoSeq1.idx_int
    have c1 : (items.isEmpty || (1 : Int) == 1) = true := by rw [Bool.or_eq_true]; exact .inr rfl
    wp_walk using wpAny_loadPart' hl
    repeat (first
      | (refine wpAny_ite_false (decide_eq_false (by decide)) ?_; wp_walk using wpAny_loadPart' hl)
      | (refine wpAny_ite_true (decide_eq_true c1) ?_; wp_walk using wpAny_loadPart' hl))
    exact ⟨_, rfl, h⟩
theorem tuple_mul0 (l : Addr) (items : Array Value) (n : Nat) (dd : Option Addr) (sl : Array (Option Value)) (u : Tok) (hi : items.isEmpty = false) :
    Meets (Builtin.«tuple.__mul__» ⟨[.ref l, .int 0 u], []⟩) (fun _ R s => s.heap.get? l = some { cls := .type "tuple", dict := dd, data := .seq items n, slots := sl } ∧ R (.ok (.ret (.ref s.heap.objs.size))) { s with heap := s.heap.push { cls := Value.type "tuple", data := Data.seq #[] }, toks := s.toks }) :=
  .of_wp fun prog w A R s h => by
    obtain ⟨hp, g, d, tk, os⟩ := s
    obtain ⟨hl, h⟩ := h
    have f1 := AutoSeq1.idx_int
    have c1 : ¬ (items.isEmpty || (0 : Int) == 1) = true := by rw [hi]; decide
    have c2 : (decide ((0 : Int) ≤ 0) || items.isEmpty) = true := by rw [hi]; decide
    wp_walk using wpAny_loadPart' hl
    repeat (first
      | (refine wpAny_ite_false (decide_eq_false (by decide)) ?_; wp_walk using wpAny_loadPart' hl)
      | (refine wpAny_ite_false (decide_eq_false c1) ?_; wp_walk using wpAny_loadPart' hl)
      | (refine wpAny_ite_true (decide_eq_true c2) ?_; wp_walk using wpAny_loadPart' hl))
    exact ⟨_, rfl, h⟩
def rRep01 (K : PySem.W.Frag) : R2 := fun x y H Q => ∃ l k xs, x = .ref l ∧ y = .int k ∧ SqT K H l xs ∧ xs ≠ [] ∧ (k = 0 ∨ k = 1) ∧ (k = 1 → Q (.ref l) H) ∧ (k = 0 → ∀ p, H p = none → Q (.ref p) (L2.upd H p (.tup [])))
theorem op_rep01 {X : Cx} : OpR X (binaryOp .Mult) (rRep01 X.K) := by
  intro pins s σ H x y v u Q I rx ry h
  obtain ⟨l, k, xs, rfl, rfl, hT, hne, hk, q1, q0⟩ := h
  cases rx
  obtain ⟨t, rfl⟩ := ry
  obtain ⟨its, r, ⟨⟨cls, dd, data, sl⟩, ho, hc, n, hd⟩, hs⟩ := I.tuple hT
  simp only at hc hd
  subst hc hd
  have hn : its ≠ [] := fun e => hne (by
    have := r.length
    rw [e] at this
    exact List.eq_nil_of_length_eq_zero this)
  have hi : its.toArray.isEmpty = false := by
    cases its with
    | nil => exact absurd rfl hn
    | cons a b => rfl
  rcases hk with rfl | rfl
  · refine wpAny_binaryOp_repeat_ref (T := "tuple") (U := "int") (by decide) ⟨_, ho, rfl⟩ (fun s' => typeIs_int s' 0 t) noFill_tuple_mul PySem.F.fills_int_mul PySem.F.slot_int_rmul repeat_tuple PySem.F.slot_int_index.lookup
      (call_meets PySem.F.slot_int_rmul (typeIs_int s 0 t) PySem.F.entry_int_rmul (PySem.F.args_int_rmul_2 _ _) (int_rmul_tuple 0 t l its.toArray n dd sl)
        ⟨ho, rfl, ⟨_, ho, rfl⟩, call_meets PySem.F.slot_tuple_mul ⟨_, ho, rfl⟩ PySem.F.entry_tuple_mul (PySem.F.args_tuple_mul_2 _ _) (tuple_mul0 l its.toArray n dd sl t hi) ⟨ho, ?_⟩⟩)
    refine ⟨.ref s.heap.objs.size, _, I.laid (t' := s.toks) (o := .tup []) (fun b ob q => Heap.get?_push_of_some _ q) (Nat.le_refl _) ?_, rfl, q0 rfl _ (I.hok.fresh (Nat.le_refl _))⟩
    exact ⟨Nat.zero_le _, [], .nil, IsTup.new _ _⟩
  · refine wpAny_binaryOp_repeat_ref (T := "tuple") (U := "int") (by decide) ⟨_, ho, rfl⟩ (fun s' => typeIs_int s' 1 t) noFill_tuple_mul PySem.F.fills_int_mul PySem.F.slot_int_rmul repeat_tuple PySem.F.slot_int_index.lookup
      (call_meets PySem.F.slot_int_rmul (typeIs_int s 1 t) PySem.F.entry_int_rmul (PySem.F.args_int_rmul_2 _ _) (int_rmul_tuple 1 t l its.toArray n dd sl)
        ⟨ho, rfl, ⟨_, ho, rfl⟩, call_meets PySem.F.slot_tuple_mul ⟨_, ho, rfl⟩ PySem.F.entry_tuple_mul (PySem.F.args_tuple_mul_2 _ _) (tuple_mul1 l its.toArray n dd sl t) ⟨ho, ?_⟩⟩)
    exact ⟨.ref l, H, I, rfl, q1 rfl⟩
end
/-! ### a comprehension over two ranges -/
theorem lc2_rng {lo : Int} {n : Nat} {g : TG} {tt tt1 : TT} {wi1 : TI} {g1 : TG} {te : TE} {vs vs1 : List Nat} {σ : L2.St} {H1 : Hp} {D : Addr} {Qd : Hp → Prop} (Pv : Nat → Hp → Prop) (h0 : Pv 0 (upd H1 D (.lst [])))
    (hs : ∀ i H, i < n → Pv i H → g (.int (lo + i)) (wipe σ vs) H fun σ2 H2 => wipe σ2 vs = wipe σ vs ∧ tt σ2 H2 fun b H3 =>
      if b = true then wi1 σ2 H3 fun J1 H4 => ∃ W1 : Nat → Nat → Hp → Prop, (∃ m, W1 0 m H4) ∧ ∀ j k H, W1 j k H →
          (J1.stop j H ∧ Pv (i + 1) H) ∨ (J1.go j H ∧ ∃ Nx1 : Hp → Prop, (∀ H', Nx1 H' → ∃ k', k' < k ∧ W1 (j + 1) k' H') ∧ ∀ x H', J1.yld j H x H' → g1 x (wipe σ2 vs1) H' fun σ3 H5 => wipe σ3 vs1 = wipe σ2 vs1 ∧ tt1 σ3 H5 fun b H6 =>
            if b = true then te σ3 H6 fun y H7 => ∃ acc, H7 D = some (.lst acc) ∧ acc.length < sizeLine ∧ Nx1 (upd H7 D (.lst (acc ++ [y]))) else Nx1 H6)
      else Pv (i + 1) H3) (hd : ∀ H, Pv n H → Qd H) :
    ∃ W : Nat → Nat → Hp → Prop, (∃ m, W 0 m (upd H1 D (.lst []))) ∧ ∀ i m H, W i m H →
      ((Itr lo n).stop i H ∧ Qd H) ∨ ((Itr lo n).go i H ∧ ∃ Nx : Hp → Prop, (∀ H', Nx H' → ∃ m', m' < m ∧ W (i + 1) m' H') ∧ ∀ x H', (Itr lo n).yld i H x H' → g x (wipe σ vs) H' fun σ2 H2 => wipe σ2 vs = wipe σ vs ∧ tt σ2 H2 fun b H3 =>
        if b = true then wi1 σ2 H3 fun J1 H4 => ∃ W1 : Nat → Nat → Hp → Prop, (∃ m, W1 0 m H4) ∧ ∀ j k H, W1 j k H →
          (J1.stop j H ∧ Nx H) ∨ (J1.go j H ∧ ∃ Nx1 : Hp → Prop, (∀ H', Nx1 H' → ∃ k', k' < k ∧ W1 (j + 1) k' H') ∧ ∀ x H', J1.yld j H x H' → g1 x (wipe σ2 vs1) H' fun σ3 H5 => wipe σ3 vs1 = wipe σ2 vs1 ∧ tt1 σ3 H5 fun b H6 =>
            if b = true then te σ3 H6 fun y H7 => ∃ acc, H7 D = some (.lst acc) ∧ acc.length < sizeLine ∧ Nx1 (upd H7 D (.lst (acc ++ [y]))) else Nx1 H6)
        else Nx H3) := by
  refine ⟨fun i m H => m = n - i ∧ i ≤ n ∧ Pv i H, ⟨n, by simp, Nat.zero_le _, h0⟩, ?_⟩
  rintro i m H ⟨rfl, hi, p⟩
  by_cases hlt : i < n
  · refine .inr ⟨hlt, Pv (i + 1), fun H' p' => ⟨n - (i + 1), by omega, rfl, hlt, p'⟩, fun x H' y => ?_⟩
    obtain ⟨e, y⟩ := y
    subst e y
    exact hs i _ hlt p
  · have e : i = n := by omega
    subst e
    exact .inl ⟨Nat.le_refl _, hd H p⟩
theorem in_rng {lo : Int} {n : Nat} {g1 : TG} {tt1 : TT} {te : TE} {vs1 : List Nat} {σ2 : L2.St} {H4 : Hp} {D : Addr} {Nx : Hp → Prop} (Pv : Nat → Hp → Prop) (h0 : Pv 0 H4)
    (hs : ∀ i H, i < n → Pv i H → g1 (.int (lo + i)) (wipe σ2 vs1) H fun σ3 H5 => wipe σ3 vs1 = wipe σ2 vs1 ∧ tt1 σ3 H5 fun b H6 =>
      if b = true then te σ3 H6 fun y H7 => ∃ acc, H7 D = some (.lst acc) ∧ acc.length < sizeLine ∧ Pv (i + 1) (upd H7 D (.lst (acc ++ [y]))) else Pv (i + 1) H6) (hd : ∀ H, Pv n H → Nx H) :
    ∃ W1 : Nat → Nat → Hp → Prop, (∃ m, W1 0 m H4) ∧ ∀ j k H, W1 j k H →
      ((Itr lo n).stop j H ∧ Nx H) ∨ ((Itr lo n).go j H ∧ ∃ Nx1 : Hp → Prop, (∀ H', Nx1 H' → ∃ k', k' < k ∧ W1 (j + 1) k' H') ∧ ∀ x H', (Itr lo n).yld j H x H' → g1 x (wipe σ2 vs1) H' fun σ3 H5 => wipe σ3 vs1 = wipe σ2 vs1 ∧ tt1 σ3 H5 fun b H6 =>
        if b = true then te σ3 H6 fun y H7 => ∃ acc, H7 D = some (.lst acc) ∧ acc.length < sizeLine ∧ Nx1 (upd H7 D (.lst (acc ++ [y]))) else Nx1 H6) := by
  refine ⟨fun i m H => m = n - i ∧ i ≤ n ∧ Pv i H, ⟨n, by simp, Nat.zero_le _, h0⟩, ?_⟩
  rintro i m H ⟨rfl, hi, p⟩
  by_cases hlt : i < n
  · refine .inr ⟨hlt, Pv (i + 1), fun H' p' => ⟨n - (i + 1), by omega, rfl, hlt, p'⟩, fun x H' y => ?_⟩
    obtain ⟨e, y⟩ := y
    subst e y
    exact hs i _ hlt p
  · have e : i = n := by omega
    subst e
    exact .inl ⟨Nat.le_refl _, hd H p⟩
/-! ### plain mathematics: orders, the first valid one, ways -/
structure Od where
  s : Nat
  t : Nat
  f : Nat
  n : Nat
  e : Nat
def Od.vs (o : Od) : List V := [.int o.s, .int o.t, .int o.f, .int o.n, .int o.e]
structure OdOk (p h : Nat) (o : Od) : Prop where
  s : o.s < h
  t : o.t < h
  st : o.s ≠ o.t
  f : o.f < p
  n1 : 1 ≤ o.n
  n : o.n ≤ p
  e1 : 1 ≤ o.e
  e : o.e ≤ 9
/-- the order o is valid on the day d of a net of period p -/
def onDay (p : Nat) (o : Od) (d : Int) : Bool := decide ((d - (o.f : Int)) % (p : Int) < (o.n : Int))
def hit (p : Nat) (s : Nat) (d : Int) (o : Od) : Bool := decide (o.s = s) && onDay p o d
/-- the number of the order that is followed -/
def idx (p : Nat) (os : List Od) (s : Nat) (d : Int) : Option Nat := os.findIdx? (hit p s d)
def optV : Option Nat → V
  | none => .non
  | some k => .int k
theorem optV_flat (o : Option Nat) : flatV (optV o) = true := by cases o <;> rfl
theorem idx_mod (p : Nat) (os : List Od) (s : Nat) (d : Int) : idx p os s (d % (p : Int)) = idx p os s d := by
  unfold idx
  congr 1
  funext o
  unfold hit onDay
  rw [Int.emod_sub_emod]
theorem idx_nat (p : Nat) (os : List Od) (s d : Nat) : idx p os s ((d % p : Nat) : Int) = idx p os s (d : Int) := by
  rw [Int.natCast_emod]
  exact idx_mod p os s d
theorem idx_later (p : Nat) (os : List Od) (s d k : Nat) : idx p os s ((d + p * k : Nat) : Int) = idx p os s (d : Int) := by
  rw [← idx_nat p os s (d + p * k), Nat.add_mul_mod_self_left, idx_nat]
theorem idx_lt {p : Nat} {os : List Od} {s k : Nat} {d : Int} (h : idx p os s d = some k) : k < os.length := by
  unfold idx at h
  exact (List.findIdx?_eq_some_iff_getElem.mp h).1
theorem idx_take_succ {p : Nat} {os : List Od} {s k : Nat} {d : Int} {o : Od} (h : os[k]? = some o) :
    idx p (os.take (k + 1)) s d = (idx p (os.take k) s d).or (if hit p s d o = true then some k else none) := by
  obtain ⟨hk, ho⟩ := List.getElem?_eq_some_iff.mp h
  unfold idx
  rw [List.take_add_one, h, Option.toList_some, List.findIdx?_append, List.findIdx?_singleton]
  have hl : (os.take k).length = k := by rw [List.length_take]; omega
  rw [hl]
  cases hh : hit p s d o with
  | true => simp
  | false => simp
/-- which days of the period are among the first l days of an order -/
def among (p f l d : Nat) : Prop := ∃ j, j < l ∧ (f + j) % p = d
theorem among_zero (p f d : Nat) : ¬ among p f 0 d := fun ⟨_, h, _⟩ => absurd h (Nat.not_lt_zero _)
theorem among_succ {p f l d : Nat} : among p f (l + 1) d ↔ among p f l d ∨ (f + l) % p = d := by
  constructor
  · rintro ⟨j, hj, e⟩
    by_cases z : j = l
    · subst z
      exact .inr e
    · exact .inl ⟨j, by omega, e⟩
  · rintro (⟨j, hj, e⟩ | e)
    · exact ⟨j, by omega, e⟩
    · exact ⟨l, by omega, e⟩
theorem among_on {p h d : Nat} {o : Od} (k : OdOk p h o) (hd : d < p) : among p o.f o.n d ↔ onDay p o (d : Int) = true := by
  unfold onDay
  rw [decide_eq_true_iff]
  have kf := k.f
  have kn := k.n
  have key : ((d : Int) - (o.f : Int)) % (p : Int) = if o.f ≤ d then (d : Int) - o.f else (d : Int) - o.f + p := by
    split
    · exact Int.emod_eq_of_lt (by omega) (by omega)
    · rw [← Int.add_emod_right]
      exact Int.emod_eq_of_lt (by omega) (by omega)
  rw [key]
  constructor
  · rintro ⟨j, hj, e⟩
    by_cases q : o.f + j < p
    · rw [Nat.mod_eq_of_lt q] at e
      rw [if_pos (by omega)]
      omega
    · have e2 : (o.f + j) % p = o.f + j - p := by
        rw [Nat.mod_eq_sub_mod (by omega), Nat.mod_eq_of_lt (by omega)]
      rw [e2] at e
      split
      · omega
      · omega
  · intro q
    by_cases c : o.f ≤ d
    · rw [if_pos c] at q
      exact ⟨d - o.f, by omega, by rw [show o.f + (d - o.f) = d by omega]; exact Nat.mod_eq_of_lt hd⟩
    · rw [if_neg c] at q
      refine ⟨d + p - o.f, by omega, ?_⟩
      rw [show o.f + (d + p - o.f) = d + p by omega, Nat.add_mod_right]
      exact Nat.mod_eq_of_lt hd
/-- one hop of a letter at a house on a day -/
def hop (p : Nat) (os : List Od) (st : Nat × Nat) : Option (Nat × Nat) :=
  match idx p os st.1 (st.2 : Int) with
  | none => none
  | some k => (os[k]?).map fun o => (o.t, st.2 + o.e)
/-- the first n stops of a letter -/
def way (p : Nat) (os : List Od) : Nat → Nat × Nat → List (Nat × Nat)
  | 0, _ => []
  | n + 1, st => st :: match hop p os st with
    | none => []
    | some st' => way p os n st'
/-! ### heaps -/
/-- all but what stands at d is as it was -/
def But (d : Addr) (H H' : Hp) : Prop := ∀ b o, b ≠ d → H b = some o → H' b = some o
theorem But.refl {d : Addr} {H : Hp} : But d H H := fun _ _ _ e => e
theorem But.trans {d : Addr} {H H1 H2 : Hp} (a : But d H H1) (b : But d H1 H2) : But d H H2 := fun c o n e => b c o n (a c o n e)
theorem But.of {d : Addr} {H H' : Hp} (s : Same H H') : But d H H' := fun b o _ e => s b o e
theorem But.upd {d : Addr} {H : Hp} {o : HO} : But d H (upd H d o) := fun b u n e => by rw [upd_ne n]; exact e
theorem same_upd {H : Hp} {p : Addr} {o : HO} (h : H p = none) : Same H (L2.upd H p o) := fun b x e => by
  rw [upd_ne (ne_of_none e h)]
  exact e
theorem same_updN {H H' : Hp} {p : Addr} {o : HO} (s : Same H H') (h : H p = none) : Same H (L2.upd H' p o) := fun b x e => by
  rw [upd_ne (ne_of_none e h)]
  exact s b x e
theorem But.new {d p : Addr} {H : Hp} {o : HO} (h : H p = none) : But d H (L2.upd H p o) := But.of (same_upd h)
theorem But.free {d p : Addr} {H H' : Hp} {o : HO} (s : But d H H') (hd : H' d = some o) (h : H' p = none) : H p = none := by
  cases q : H p with
  | none => rfl
  | some u =>
    by_cases e : p = d
    · rw [e, hd] at h
      cases h
    · rw [s p u e q] at h
      cases h
/-- the tail of ints of the source of numbers -/
def DL (s c : Nat) (r : List Nat) : List V := .int s :: .int c :: r.map fun (n : Nat) => V.int (n : Int)
def DAt (H : Hp) (d : Addr) : Prop := ∃ s c r, s < 2147483647 ∧ r.length ≤ 63 ∧ H d = some (.lst (DL s c r))
theorem DAt.but {H H' : Hp} {d : Addr} (h : DAt H d) (s : Same H H') : DAt H' d := by
  obtain ⟨a, b, c, h1, h2, h3⟩ := h
  exact ⟨a, b, c, h1, h2, s _ _ h3⟩
theorem DAt.som {H : Hp} {d : Addr} (h : DAt H d) : ∃ o, H d = some o := by
  obtain ⟨a, b, c, h1, h2, h3⟩ := h
  exact ⟨_, h3⟩
theorem dl0 {s c : Nat} {r : List Nat} : atI (DL s c r) 0 = some (.int s) := atI_nat (j := 0) rfl
theorem dl1 {s c : Nat} {r : List Nat} : atI (DL s c r) 1 = some (.int c) := atI_nat (j := 1) rfl
theorem ix_at {n j : Nat} (hj : j < n) : ixN n (j : Int) = some j := by
  unfold ixN
  rw [if_pos (by omega), if_pos (by omega)]
  simp
theorem seqIx {n j : Nat} (hj : j < n) : seqIndex? (j : Int) n = some j := by
  unfold seqIndex?
  have h1 : ¬ (j : Int) < 0 := by omega
  have h2 : (decide (0 ≤ (j : Int)) && decide ((j : Int) < (n : Int))) = true := by
    rw [decide_eq_true (show 0 ≤ (j : Int) by omega), decide_eq_true (show (j : Int) < (n : Int) by omega)]
    rfl
  simp only [if_neg h1]
  rw [if_pos h2]
  simp
theorem fmod_nat (a b : Nat) : (a : Int).fmod (b : Int) = ((a % b : Nat) : Int) := by
  rw [Int.fmod_eq_emod_of_nonneg _ (by omega)]
  rfl
theorem fdiv_nat (a b : Nat) : (a : Int).fdiv (b : Int) = ((a / b : Nat) : Int) := by
  rw [Int.fdiv_eq_ediv_of_nonneg _ (by omega)]
  rfl
theorem dlx {s c j : Nat} {r : List Nat} (h : j < 2) : ixN (DL s c r).length (j : Int) = some j := ix_at (by
  show j < (List.map _ r).length + 1 + 1
  omega)
theorem dllen {s c : Nat} {r : List Nat} : (DL s c r).length = r.length + 2 := by
  show (List.map _ r).length + 1 + 1 = _
  rw [List.length_map]
/-- the built-ins that no name of the program hides -/
structure Blt (mg : Str → Option Value) : Prop where
  len : mg "len" = none
  range : mg "range" = none
  isi : mg "isinstance" = none
  int : mg "int" = none
  bool : mg "bool" = none
  str : mg "str" = none
  tuple : mg "tuple" = none
  list : mg "list" = none
  all : mg "all" = none
  abs : mg "abs" = none
  enum : mg "enumerate" = none
/-- a def of the top that keeps its promise -/
def Df (P : Program) (w : World) (K : PySem.W.Frag) (mg : Str → Option Value) (base : Heap) (x : Str) (k : Nat) (ps : List Str) (sp : Sp) : Prop :=
  ∃ (f : Addr) (fd : FuncData), mg x = some (.ref f) ∧ PySem.W.keepIn K (.ref f) = true ∧ Binds K fd ps [] ∧ FnOk P w K mg base CX0 k f fd ps sp
/-- a list of numbers -/
def nints (l : List Nat) : List V := l.map fun (n : Nat) => V.int (n : Int)
/-- filtering a range step by step -/
theorem filter_range_succ' {n : Nat} {f : Nat → Bool} : (List.range (n + 1)).filter f = (List.range n).filter f ++ (if f n = true then [n] else []) := by
  rw [List.range_succ, List.filter_append]
  congr 1
  by_cases c : f n = true
  · rw [if_pos c, List.filter_cons_of_pos c]
    rfl
  · rw [if_neg c, List.filter_cons_of_neg c]
    rfl
abbrev s_l_below : Stmt := top 23
abbrev N_l_below : List Str := ["_law_d", "_law_limit", "_law_result"]
abbrev P_l_below : List Str := ["_law_d", "_law_limit"]
theorem sc_l_below : FnScope N_l_below P_l_below (defScope s_l_below) := ⟨rfl, rfl, rfl, by decide +kernel, rfl, by decide +kernel, by decide +kernel⟩
/-! ### the next number -/
def spBelow : Sp := fun vs H Q _ => ∃ (d : Addr) (n : Nat), vs = [.ref d, .int n] ∧ DAt H d ∧ 0 < n ∧ n < 1073741824 ∧
  ∀ H' (r : Nat), r < n → But d H H' → DAt H' d → Q (.int r) H'
section
variable {P : Program} {w : World} {K : PySem.W.Frag} {mg : Str → Option Value} {base : Heap}
theorem ok_below {f : Addr} {fd : FuncData} (F : Fun K "_law_below" "_law_below" s_l_below f fd) (ml : mg "len" = none) : FnOk P w K mg base CX0 2 f fd P_l_below spBelow := by
  refine F.ok sc_l_below (fun vs H Q E h => ?_) (fun cdv A outer s H vs Q E hr h => ?_)
  · obtain ⟨d, n, rfl, _⟩ := h
    rfl
  · obtain ⟨d, n, rfl, ⟨s0, c, r, hs, hl, hd⟩, n0, n1, q⟩ := h
    refine ⟨_, C8.pss_cut (ps_if (PW.pt (pw_and (pt_cmpR op_eq (pe_ix ix_list (pv 0) pe_int (fun _ _ => rfl)) pe_int (nomark _)) (pw_and1 (pt_cmpR op_gt (pe_callB call_len_seq (by rfl) ml PySem.boot_len (pa_cons (pv 0) pa_nil)) pe_int (nomark _)))))
        (pss_one (ps_asg (pe_bm PySem.F.plainAttrs_list PySem.F.slot_list_pop PySem.F.type_list_pop mt_popAt (pv 0) (pa_cons pe_int pa_nil)) (pg_sub (pv 0) pe_int set_list))) pss_nil)
      (pss_cons (ps_if (pt_cmpR op_gt (pe_ix ix_list (pv 0) pe_int (fun _ _ => rfl)) pe_int (nomark _))
        (pss_cons (ps_set (i := 2) sc_l_below.nd rfl (.inl rfl) (pe_op op_modN (pe_ix ix_list (pv 0) pe_int (fun _ _ => rfl)) (pv 1)))
          (pss_cons (ps_asg (pe_op op_fdivN (pe_ix ix_list (pv 0) pe_int (fun _ _ => rfl)) (pv 1)) (pg_sub (pv 0) pe_int set_list)) (pss_one (ps_ret (pv 2))))) pss_nil)
      (pss_cons (ps_asg (pe_op op_modN (pe_op op_add (pe_op op_mul (pe_ix ix_list (pv 0) pe_int (fun _ _ => rfl)) pe_int) pe_int) pe_int) (pg_sub (pv 0) pe_int set_list))
        (pss_one (ps_ret (pe_op op_modN (pe_op op_fdivN (pe_ix ix_list (pv 0) pe_int (fun _ _ => rfl)) pe_int) (pv 1)))))), ?_⟩
    -- if d[1] == 0 and len(d) > 2: d[1] = d.pop(2)
    have rest : ∀ (s1 c1 : Nat) (r1 : List Nat) (H1 : Hp), s1 < 2147483647 → r1.length ≤ 63 → But d H H1 → H1 d = some (.lst (DL s1 c1 r1)) →
        (fun σ' H' => σ' = [some (V.ref d), some (V.int n), none] ∧ But d H H' ∧ DAt H' d : L2.St → Hp → Prop) [some (V.ref d), some (V.int n), none] H1 := fun s1 c1 r1 H1 a1 a2 a3 a4 => ⟨rfl, a3, s1, c1, r1, a1, a2, a4⟩
    refine ⟨fun σ' H' => σ' = [some (V.ref d), some (V.int n), none] ∧ But d H H' ∧ DAt H' d, ⟨_, rfl, d, _, 1, _, rfl, rfl, SqL.of hd, dl1, rfl, _, rfl, ?_⟩, ?_⟩
    · refine ite2 (fun e => ?_) (fun _ => iteF (rest s0 c r H hs hl .refl hd))
      refine ⟨_, rfl, d, _, rfl, .inl (SqL.of hd), _, _, rfl, rfl, _, rfl, ?_⟩
      refine ite2 (fun e2 => ?_) (fun _ => rest s0 c r H hs hl .refl hd)
      have e3 : 2 < ((DL s0 c r).length : Int) := of_decide_eq_true e2
      rw [dllen] at e3
      cases r with
      | nil => exact absurd e3 (by decide)
      | cons m r2 =>
        have hl2 : r2.length + 1 ≤ 63 := hl
        refine ⟨_, rfl, .inl ⟨rfl, _, SqL.of hd⟩, d, _, 2, 2, .int m, rfl, rfl, hd, by decide, by decide, ?_, rfl, ?_⟩
        · exact seqIx (n := (DL s0 c (m :: r2)).length) (j := 2) (by rw [dllen, List.length_cons]; omega)
        · refine ⟨_, rfl, d, _, 1, 1, rfl, rfl, upd_same, ?_, ?_⟩
          · exact dlx (s := s0) (c := c) (r := r2) (j := 1) (by decide)
          · refine rest s0 m r2 _ hs (by omega) (fun b o nb e => ?_) upd_same
            rw [upd_ne nb, upd_ne nb]
            exact e
    · rintro σ' H1 ⟨rfl, b1, s1, c1, r1, hs1, hl1, hd1⟩
      -- if d[1] > 0
      refine ⟨_, rfl, d, _, 1, _, rfl, rfl, SqL.of hd1, dl1, _, _, rfl, rfl, _, rfl, ite2 (fun e => ?_) (fun _ => ?_)⟩
      · refine ⟨_, rfl, d, _, 1, _, rfl, rfl, SqL.of hd1, dl1, _, rfl, _, _, rfl, rfl, by omega, ?_⟩
        refine ⟨_, rfl, d, _, 1, _, rfl, rfl, SqL.of hd1, dl1, _, rfl, _, _, rfl, rfl, ⟨by omega, by omega⟩, ?_⟩
        refine ⟨_, rfl, d, _, 1, 1, rfl, rfl, hd1, dlx (j := 1) (by decide), ?_⟩
        refine ⟨_, rfl, ?_⟩
        show Q (V.int ((c1 : Int).fmod (n : Int))) (L2.upd H1 d (.lst (DL s1 c1 r1 |>.set 1 (V.int ((c1 : Int).fdiv (n : Int))))))
        rw [fmod_nat, fdiv_nat]
        exact q _ _ (Nat.mod_lt _ n0) (b1.trans .upd) ⟨s1, c1 / n, r1, hs1, hl1, upd_same⟩
      · refine ⟨_, rfl, d, _, 0, _, rfl, rfl, SqL.of hd1, dl0, _, _, rfl, rfl, .inl ⟨by omega, by omega⟩, _, _, rfl, rfl, _, _, rfl, rfl, (by show (2147483647 : Int) ≠ 0; decide), ?_⟩
        refine ⟨_, rfl, d, _, 0, 0, rfl, rfl, hd1, dlx (j := 0) (by decide), ?_⟩
        have e5 : ((s1 : Int) * 48271 + 11).fmod 2147483647 = (((s1 * 48271 + 11) % 2147483647 : Nat) : Int) := fmod_nat (s1 * 48271 + 11) 2147483647
        have e6 : ((DL s1 c1 r1).set 0 (V.int (((s1 : Int) * 48271 + 11).fmod 2147483647))) = DL ((s1 * 48271 + 11) % 2147483647) c1 r1 := by
          rw [e5]
          rfl
        have hd2 : (L2.upd H1 d (.lst ((DL s1 c1 r1).set 0 (V.int (((s1 : Int) * 48271 + 11).fmod 2147483647))))) d = some (.lst (DL ((s1 * 48271 + 11) % 2147483647) c1 r1)) := by
          rw [upd_same, e6]
        refine ⟨_, rfl, d, _, 0, _, rfl, rfl, SqL.of hd2, dl0, _, _, rfl, rfl, ⟨by decide, by decide⟩, _, rfl, _, _, rfl, rfl, by omega, ?_⟩
        show Q (V.int (Int.fmod (Int.fdiv (((s1 * 48271 + 11) % 2147483647 : Nat) : Int) ((64 : Nat) : Int)) (n : Int))) _
        rw [fdiv_nat, fmod_nat]
        exact q _ _ (Nat.mod_lt _ n0) (b1.trans .upd) ⟨_, c1, r1, Nat.mod_lt _ (by decide), hl1, hd2⟩
end
abbrev s_l_random : Stmt := top 22
abbrev N_l_random : List Str := ["_law_script", "_law_salt", "_law_seed", "_law_cell"]
abbrev P_l_random : List Str := ["_law_script", "_law_salt"]
theorem sc_l_random : FnScope N_l_random P_l_random (defScope s_l_random) := ⟨rfl, rfl, rfl, by decide +kernel, rfl, by decide +kernel, by decide +kernel⟩
/-! ### the source of numbers -/
def spRandom (K : PySem.W.Frag) : Sp := fun vs H Q _ => ∃ (a : Addr) (ns : List Int) (salt : Nat), vs = [.ref a, .int salt] ∧ SqL K H a (ns.map V.int) ∧ ns.length ≤ 63 ∧ salt < 2147483647 ∧
  ∀ H' d, Same H H' → H d = none → DAt H' d → Q (.ref d) H'
section
variable {P : Program} {w : World} {K : PySem.W.Frag} {mg : Str → Option Value} {base : Heap}
theorem ok_random {f : Addr} {fd : FuncData} (F : Fun K "_law_random" "_law_random" s_l_random f fd) (B : Blt mg) : FnOk P w K mg base CX0 2 f fd P_l_random (spRandom K) := by
  refine F.ok sc_l_random (fun vs H Q E h => ?_) (fun cdv A outer s H vs Q E hr h => ?_)
  · obtain ⟨a, ns, salt, rfl, _⟩ := h
    rfl
  · obtain ⟨a, ns, salt, rfl, hS, hlen, hsalt, q⟩ := h
    refine ⟨_, pss_cons (ps_set (i := 2) sc_l_random.nd rfl (.inl rfl) (pv 1))
      (pss_cons (ps_for PassesOwn.never rfl (pi_list (pv 0)) (pg_name (i := 3) sc_l_random.nd rfl (.inl rfl))
        (pss_one (ps_set (i := 2) sc_l_random.nd rfl (.inl rfl) (pe_op op_modN (pe_op op_add (pe_op op_mul (pv 2) pe_int) (pe_callB call_abs (by rfl) B.abs PyProof.Rows.boot_abs (pa_cons (pv 3) pa_nil))) pe_int))))
      (pss_one (ps_ret (pe_op op_cat (pe_lst (pa_cons (pv 2) (pa_cons pe_int pa_nil)))
        (pe_lc (own := [("_law_cell", 3)]) (g := gName 3) (by rfl) sc_l_random.nd (pi_list (pv 0)) (blkOk_by (N := N_l_random) (sc := defScope s_l_random) (by decide +kernel))
          (fun _ _ _ _ _ => pg_name (i := 3) sc_l_random.nd rfl (.inl rfl)) (fun _ _ _ _ _ => pts_one (pt_cmpR op_ge (pv 3) (pe_op op_pow pe_int pe_int) (nomark _))) (fun _ _ _ _ _ => pv 3)))))), ?_⟩
    refine ⟨_, rfl, .ref a, rfl, a, rfl, ⟨_, hS⟩, for_list (K := K) (a := a) (xs := ns.map V.int) (fun i σ H' => ∃ (z : Nat) (v : Option V), z < 2147483647 ∧ σ = [some (.ref a), some (.int salt), some (.int z), v] ∧ H' = H)
      ⟨salt, none, hsalt, rfl, rfl⟩ (fun i σ H' _ ⟨_, _, _, _, e⟩ => by rw [e]; exact hS) ?_ ?_⟩
    · rintro i y σ H' hi ⟨z, v, hz, rfl, rfl⟩
      obtain ⟨u, rfl⟩ : ∃ u, y = V.int u := by
        rw [List.getElem?_map] at hi
        cases e : ns[i]? with
        | none => rw [e] at hi; cases hi
        | some u => rw [e] at hi; exact ⟨u, (Option.some.inj hi).symm⟩
      refine ⟨_, rfl, _, _, rfl, rfl, .inl ⟨by omega, by omega⟩, _, rfl, _, rfl, _, _, rfl, rfl, _, _, rfl, rfl, (by show (2147483647 : Int) ≠ 0; decide), ?_⟩
      have e1 : (z : Int) * 31 + (if u < 0 then -u else u) = ((z * 31 + u.natAbs : Nat) : Int) := by
        split <;> omega
      refine ⟨(z * 31 + u.natAbs) % 2147483647, some (.int u), Nat.mod_lt _ (by decide), ?_, rfl⟩
      show [some (V.ref a), some (V.int salt), some (V.int (Int.fmod ((z : Int) * 31 + (if u < 0 then -u else u)) 2147483647)), some (V.int u)] = _
      rw [e1, show ((2147483647 : Int)) = ((2147483647 : Nat) : Int) from rfl, fmod_nat]
    · rintro σ H' ⟨z, v, hz, rfl, rfl⟩
      refine ⟨_, rfl, (by show 2 ≤ sizeLine; decide), fun l nl => ?_⟩
      have sl := same_upd (o := HO.lst [V.int z, V.int 0]) nl
      refine ⟨.ref a, rfl, a, rfl, ⟨_, sl.seq hS⟩, fun D nD => ?_⟩
      have nDl : l ≠ D := fun e => by
        rw [← e, upd_same] at nD
        cases nD
      refine lc_list (K := K) (a := a) (xs := ns.map V.int) (fun i H1 => ∃ r : List Nat, r.length ≤ i ∧ H1 = L2.upd (L2.upd H' l (.lst [V.int z, V.int 0])) D (.lst (r.map fun (n : Nat) => V.int (n : Int))))
        ⟨[], Nat.le_refl _, rfl⟩ (fun i H1 _ ⟨r, _, e⟩ => by rw [e]; exact (same_upd nD).seq (sl.seq hS)) ?_ ?_
      · rintro i x H1 hi ⟨r, hr1, rfl⟩
        obtain ⟨u, rfl⟩ : ∃ u, x = V.int u := by
          rw [List.getElem?_map] at hi
          cases e : ns[i]? with
          | none => rw [e] at hi; cases hi
          | some u => rw [e] at hi; exact ⟨u, (Option.some.inj hi).symm⟩
        have hi63 : i < ns.length := by
          have q := (List.getElem?_eq_some_iff.mp hi).1
          rw [List.length_map] at q
          exact q
        refine ⟨rfl, _, rfl, _, _, rfl, rfl, ⟨by decide, by decide, by decide⟩, _, _, rfl, rfl, _, rfl, ite2 (fun e => ?_) (fun _ => ⟨r, by omega, rfl⟩)⟩
        have e1 : (10 : Int) ^ (18 : Int).toNat ≤ u := of_decide_eq_true e
        have e2 : (0 : Int) ≤ u := Int.le_trans (by decide) e1
        refine ⟨_, rfl, _, upd_same, ?_, r ++ [u.toNat], ?_, ?_⟩
        · rw [List.length_map]
          exact small1000 (by omega)
        · rw [List.length_append, List.length_singleton]
          omega
        · rw [upd_upd, List.map_append]
          show L2.upd _ D (.lst (_ ++ [V.int u])) = L2.upd _ D (.lst (_ ++ [V.int (u.toNat : Int)]))
          rw [Int.toNat_of_nonneg e2]
      · rintro H1 ⟨r, hr1, rfl⟩
        rw [List.length_map] at hr1
        refine ⟨l, D, _, _, rfl, rfl, (upd_ne nDl).trans upd_same, upd_same, ?_, fun d nd => ?_⟩
        · rw [List.length_map]
          exact Nat.le_of_lt (small1000 (by show 2 + r.length ≤ 1000; omega))
        · refine q _ d (sl.trans ((same_upd nD).trans (same_upd nd))) (sl.free ((same_upd nD).free nd)) ⟨z, 0, r, hz, by omega, upd_same⟩
end
abbrev s_l_order : Stmt := top 24
abbrev N_l_order : List Str := ["_law_d", "_law_period", "_law_houses", "_law_source", "_law_delay", "_law_target"]
abbrev P_l_order : List Str := ["_law_d", "_law_period", "_law_houses"]
theorem sc_l_order : FnScope N_l_order P_l_order (defScope s_l_order) := ⟨rfl, rfl, rfl, by decide +kernel, rfl, by decide +kernel, by decide +kernel⟩
/-! ### an order made -/
def spOrder : Sp := fun vs H Q _ => ∃ (d : Addr) (p h : Nat), vs = [.ref d, .int p, .int h] ∧ DAt H d ∧ 0 < p ∧ p ≤ 30 ∧ 2 ≤ h ∧ h ≤ 10 ∧
  ∀ H' t o, OdOk p h o → But d H H' → DAt H' d → H t = none → H' t = some (.tup o.vs) → Q (.ref t) H'
section
variable {P : Program} {w : World} {K : PySem.W.Frag} {mg : Str → Option Value} {base : Heap}
theorem two_at {x y : V} {b : Nat} (hb : b < 2) : ∃ v, atI [x, y] (b : Int) = some v ∧ (v = x ∨ v = y) := by
  match b, hb with
  | 0, _ => exact ⟨x, atI_nat (j := 0) rfl, .inl rfl⟩
  | 1, _ => exact ⟨y, atI_nat (j := 1) rfl, .inr rfl⟩
theorem ok_order {f : Addr} {fd : FuncData} (F : Fun K "_law_order" "_law_order" s_l_order f fd) (DB : Df P w K mg base "_law_below" 2 P_l_below spBelow) : FnOk P w K mg base CX0 3 f fd P_l_order spOrder := by
  obtain ⟨fB, fdB, gB, kB, bB, GB⟩ := DB
  refine F.ok sc_l_order (fun vs H Q E h => ?_) (fun cdv A outer s H vs Q E hr h => ?_)
  · obtain ⟨d, p, h, rfl, _⟩ := h
    rfl
  · obtain ⟨d, p, h, rfl, hD, p0, p30, h2, h10, q⟩ := h
    refine ⟨_, pss_cons (ps_par (by rfl) sc_l_order.nd (i := 3) (j := 4) rfl rfl (by decide) rfl rfl
        (pa_cons (pe_call GB hr (by rfl) gB kB bB .nil pass0 (pa_cons (pv 0) (pa_cons (pv 2) pa_nil)))
          (pa_cons (pe_op op_add pe_int (pe_call GB hr (by rfl) gB kB bB .nil pass0 (pa_cons (pv 0) (pa_cons
            (pe_ix ix_list (pe_lst (pa_cons pe_int (pa_cons pe_int pa_nil))) (pe_call GB hr (by rfl) gB kB bB .nil pass0 (pa_cons (pv 0) (pa_cons pe_int pa_nil))) (fun _ _ => rfl)) pa_nil)))) pa_nil)) (by rfl))
      (pss_cons (ps_set (i := 5) sc_l_order.nd rfl (.inl rfl) (pe_op op_modN (pe_op op_add (pe_op op_add (pv 3) pe_int) (pe_call GB hr (by rfl) gB kB bB .nil pass0 (pa_cons (pv 0) (pa_cons (pe_op op_sub (pv 2) pe_int) pa_nil)))) (pv 2)))
      (pss_one (ps_ret (pe_tup (pa_cons (pv 3) (pa_cons (pv 5) (pa_cons (pe_call GB hr (by rfl) gB kB bB .nil pass0 (pa_cons (pv 0) (pa_cons (pv 1) pa_nil)))
        (pa_cons (pe_op op_add pe_int (pe_call GB hr (by rfl) gB kB bB .nil pass0 (pa_cons (pv 0) (pa_cons (pv 1) pa_nil)))) (pa_cons (pv 4) pa_nil))))))))), ?_⟩
    refine ⟨_, rfl, _, rfl, d, h, rfl, hD, by omega, by omega, fun H1 src hsrc b1 D1 => ?_⟩
    refine ⟨_, rfl, (by show 2 ≤ sizeLine; decide), fun l nl => ?_⟩
    have D1' := D1.but (same_upd (o := HO.lst [V.int 3, V.int 9]) nl)
    have ndl : d ≠ l := ne_of_none D1.som.choose_spec nl
    refine ⟨_, rfl, d, 2, rfl, D1', by decide, by decide, fun H2 b hb b2 D2 => ?_⟩
    have hl2 : H2 l = some (.lst [V.int 3, V.int 9]) := b2 l _ ndl.symm upd_same
    obtain ⟨m, hm, hm39⟩ : ∃ m : Nat, atI [V.int 3, V.int 9] (b : Int) = some (V.int m) ∧ (m = 3 ∨ m = 9) := by
      obtain ⟨v, h1, h2⟩ := two_at (x := V.int 3) (y := V.int 9) hb
      rcases h2 with h2 | h2
      · exact ⟨3, by rw [h1, h2]; rfl, .inl rfl⟩
      · exact ⟨9, by rw [h1, h2]; rfl, .inr rfl⟩
    refine ⟨l, _, _, _, rfl, rfl, SqL.of hl2, hm, ?_⟩
    refine ⟨d, m, rfl, D2, by omega, by omega, fun H3 dl hdl b3 D3 => ?_⟩
    refine ⟨_, _, rfl, rfl, _, _, rfl, ?_⟩
    refine ⟨_, rfl, _, _, rfl, rfl, _, rfl, _, rfl, _, _, rfl, rfl, d, h - 1, ?_, D3, by omega, by omega, fun H4 tt htt b4 D4 => ?_⟩
    · show [V.ref d, V.int ((h : Int) - 1)] = _
      rw [show (h : Int) - 1 = ((h - 1 : Nat) : Int) by omega]
    refine ⟨_, _, rfl, rfl, _, rfl, _, _, rfl, rfl, by omega, ?_⟩
    refine ⟨_, rfl, _, rfl, _, rfl, _, rfl, d, p, rfl, D4, by omega, by omega, fun H5 ff hff b5 D5 => ?_⟩
    refine ⟨_, rfl, _, rfl, d, p, rfl, D5, by omega, by omega, fun H6 nn hnn b6 D6 => ?_⟩
    refine ⟨_, _, rfl, rfl, _, rfl, (by show 5 ≤ sizeLine; decide), fun t nt => ?_⟩
    have e1 : ((src : Int) + 1 + (tt : Int)).fmod (h : Int) = (((src + 1 + tt) % h : Nat) : Int) := fmod_nat (src + 1 + tt) h
    have hb : But d H H6 := b1.trans ((But.new nl).trans (b2.trans (b3.trans (b4.trans (b5.trans b6)))))
    have hd6 := D6.som.choose_spec
    have ok : OdOk p h ⟨src, (src + 1 + tt) % h, ff, 1 + nn, 1 + dl⟩ := by
      refine ⟨hsrc, Nat.mod_lt _ (by omega), ?_, hff, by show 1 ≤ 1 + nn; omega, by show 1 + nn ≤ p; omega, by show 1 ≤ 1 + dl; omega, by show 1 + dl ≤ 9; omega⟩
      show src ≠ (src + 1 + tt) % h
      by_cases z : src + 1 + tt < h
      · rw [Nat.mod_eq_of_lt z]
        omega
      · rw [Nat.mod_eq_sub_mod (by omega), Nat.mod_eq_of_lt (by omega)]
        omega
    refine q _ t ⟨src, (src + 1 + tt) % h, ff, 1 + nn, 1 + dl⟩ ok (hb.trans (.new nt)) (D6.but (same_upd nt)) (hb.free hd6 nt) ?_
    rw [upd_same]
    show some (HO.tup [V.int src, V.int (((src : Int) + 1 + (tt : Int)).fmod (h : Int)), V.int ff, V.int (1 + (nn : Int)), V.int (1 + (dl : Int))]) = some (HO.tup [V.int src, V.int (((src + 1 + tt) % h : Nat) : Int), V.int ff, V.int ((1 + nn : Nat) : Int), V.int ((1 + dl : Nat) : Int)])
    rw [e1, Int.natCast_add 1 nn, Int.natCast_add 1 dl]
    rfl
end
/-! ### the parts of a net -/
def OrdAt (H : Hp) (v : V) (o : Od) : Prop := ∃ t, v = .ref t ∧ H t = some (.tup o.vs)
def TupKeep (H H' : Hp) : Prop := ∀ b xs, H b = some (.tup xs) → H' b = some (.tup xs)
theorem tk_of {H H' : Hp} (s : Same H H') : TupKeep H H' := fun b _ e => s b _ e
theorem But.tk {d : Addr} {H H' : Hp} (s : But d H H') (hd : DAt H d) : TupKeep H H' := fun b xs e => by
  obtain ⟨_, _, _, _, _, h3⟩ := hd
  exact s b _ (ne_of e h3 (by intro q; cases q)) e
theorem TupKeep.lst {H : Hp} {a : Addr} {xs : List V} {o : HO} (h : H a = some (.lst xs)) : TupKeep H (L2.upd H a o) := fun b ys e => by
  rw [upd_ne (ne_of e h (by intro q; cases q))]
  exact e
theorem But.updN {d p : Addr} {H H' : Hp} {o : HO} (s : But d H H') (h : H p = none) : But d H (L2.upd H' p o) := fun b u n e => by
  rw [upd_ne (ne_of_none e h)]
  exact s b u n e
theorem DAt.updN {d p : Addr} {H : Hp} {o : HO} (h : DAt H d) (n : d ≠ p) : DAt (L2.upd H p o) d := by
  obtain ⟨a, b, c, h1, h2, h3⟩ := h
  exact ⟨a, b, c, h1, h2, by rw [upd_ne n]; exact h3⟩
theorem TupKeep.trans {H H1 H2 : Hp} (a : TupKeep H H1) (b : TupKeep H1 H2) : TupKeep H H2 := fun c o e => b c o (a c o e)
theorem OrdAt.keep {H H' : Hp} {v : V} {o : Od} (k : TupKeep H H') (h : OrdAt H v o) : OrdAt H' v o := by
  obtain ⟨t, e, ht⟩ := h
  exact ⟨t, e, k _ _ ht⟩
theorem OrdsAt.keep {H H' : Hp} {ts : List V} {os : List Od} (k : TupKeep H H') (h : Paired (OrdAt H) ts os) : Paired (OrdAt H') ts os :=
  Paired.mapP h fun _ _ q => q.keep k
theorem Paired.snoc {α β : Type} {F : α → β → Prop} {x : α} {y : β} : ∀ {l1 : List α} {l2 : List β}, Paired F l1 l2 → F x y → Paired F (l1 ++ [x]) (l2 ++ [y])
  | _, _, .nil, q => .cons q .nil
  | _, _, .cons r t, q => .cons r (Paired.snoc t q)
theorem Paired.get? {α β : Type} {F : α → β → Prop} : ∀ {l1 : List α} {l2 : List β} {i : Nat} {y : β}, Paired F l1 l2 → l2[i]? = some y → ∃ x, l1[i]? = some x ∧ F x y
  | _, _, _, _, .nil, e => by simp at e
  | _, _, 0, _, .cons r _, e => by
    simp at e
    subst e
    exact ⟨_, rfl, r⟩
  | _, _, i + 1, y, .cons _ t, e => by
    obtain ⟨u, h1, h2⟩ := Paired.get? (i := i) (y := y) t (by simpa using e)
    exact ⟨u, by simpa using h1, h2⟩
structure NetOk (p h : Nat) (os : List Od) : Prop where
  p1 : 1 ≤ p
  p30 : p ≤ 30
  h1 : 1 ≤ h
  h10 : h ≤ 10
  len : os.length ≤ 20
  ok : ∀ o ∈ os, OdOk p h o
/-- the orders' tuple -/
def OrdsTup (H : Hp) (t : Addr) (os : List Od) : Prop := ∃ ts, H t = some (.tup ts) ∧ Paired (OrdAt H) ts os
theorem OrdsTup.keep {H H' : Hp} {t : Addr} {os : List Od} (k : TupKeep H H') (h : OrdsTup H t os) : OrdsTup H' t os := by
  obtain ⟨ts, h1, h2⟩ := h
  exact ⟨ts, k _ _ h1, OrdsAt.keep k h2⟩
def PartsAt (H : Hp) (a : Addr) (p h : Nat) (os : List Od) : Prop := ∃ t, H a = some (.tup [.int p, .int h, .ref t]) ∧ OrdsTup H t os
theorem PartsAt.keep {H H' : Hp} {a : Addr} {p h : Nat} {os : List Od} (k : TupKeep H H') (q : PartsAt H a p h os) : PartsAt H' a p h os := by
  obtain ⟨t, h1, h2⟩ := q
  exact ⟨t, k _ _ h1, h2.keep k⟩
abbrev s_l_parts : Stmt := top 25
abbrev N_l_parts : List Str := ["_law_d", "_law_most", "_law_period", "_law_houses", "_law_orders", "_law_k"]
abbrev P_l_parts : List Str := ["_law_d", "_law_most"]
theorem sc_l_parts : FnScope N_l_parts P_l_parts (defScope s_l_parts) := ⟨rfl, rfl, rfl, by decide +kernel, rfl, by decide +kernel, by decide +kernel⟩
def spParts : Sp := fun vs H Q _ => ∃ (d : Addr) (m : Nat), vs = [.ref d, .int m] ∧ DAt H d ∧ m ≤ 20 ∧
  ∀ H' a p h os, NetOk p h os → os.length ≤ m → But d H H' → DAt H' d → H a = none → PartsAt H' a p h os → Q (.ref a) H'
section
variable {P : Program} {w : World} {K : PySem.W.Frag} {mg : Str → Option Value} {base : Heap}
theorem three_at {x y z : V} {b : Nat} (hb : b < 3) : ∃ v, atI [x, y, z] (b : Int) = some v ∧ (v = x ∨ v = y ∨ v = z) := by
  match b, hb with
  | 0, _ => exact ⟨x, atI_nat (j := 0) rfl, .inl rfl⟩
  | 1, _ => exact ⟨y, atI_nat (j := 1) rfl, .inr (.inl rfl)⟩
  | 2, _ => exact ⟨z, atI_nat (j := 2) rfl, .inr (.inr rfl)⟩
theorem ok_parts {f : Addr} {fd : FuncData} (F : Fun K "_law_parts" "_law_parts" s_l_parts f fd) (B : Blt mg) (DB : Df P w K mg base "_law_below" 2 P_l_below spBelow) (DO : Df P w K mg base "_law_order" 3 P_l_order spOrder) : FnOk P w K mg base CX0 4 f fd P_l_parts spParts := by
  obtain ⟨fB, fdB, gB, kB, bB, GB⟩ := DB
  obtain ⟨fO, fdO, gO, kO, bO, GO⟩ := DO
  refine F.ok sc_l_parts (fun vs H Q E h => ?_) (fun cdv A outer s H vs Q E hr h => ?_)
  · obtain ⟨d, m, rfl, _⟩ := h
    rfl
  · obtain ⟨d, m, rfl, hD, hm, q⟩ := h
    have hr1 : Room 2 _ := hr.mono (by decide)
    refine ⟨_, pss_cons (ps_set (i := 2) sc_l_parts.nd rfl (.inr rfl) (pe_ix ix_list
        (pe_lst (pa_cons (pe_op op_add pe_int (pe_call GB hr1 (by rfl) gB kB bB .nil pass0 (pa_cons (pv 0) (pa_cons pe_int pa_nil))))
          (pa_cons (pe_op op_add pe_int (pe_call GB hr1 (by rfl) gB kB bB .nil pass0 (pa_cons (pv 0) (pa_cons pe_int pa_nil))))
          (pa_cons (pe_op op_add pe_int (pe_call GB hr1 (by rfl) gB kB bB .nil pass0 (pa_cons (pv 0) (pa_cons pe_int pa_nil)))) pa_nil))))
        (pe_call GB hr1 (by rfl) gB kB bB .nil pass0 (pa_cons (pv 0) (pa_cons pe_int pa_nil))) (fun _ _ => rfl)))
      (pss_cons (ps_set (i := 3) sc_l_parts.nd rfl (.inr rfl) (pe_ix ix_list
        (pe_lst (pa_cons (pe_op op_add pe_int (pe_call GB hr1 (by rfl) gB kB bB .nil pass0 (pa_cons (pv 0) (pa_cons pe_int pa_nil))))
          (pa_cons (pe_op op_add pe_int (pe_call GB hr1 (by rfl) gB kB bB .nil pass0 (pa_cons (pv 0) (pa_cons pe_int pa_nil)))) pa_nil)))
        (pe_call GB hr1 (by rfl) gB kB bB .nil pass0 (pa_cons (pv 0) (pa_cons pe_int pa_nil))) (fun _ _ => rfl)))
      (pss_cons (ps_set (i := 4) sc_l_parts.nd rfl (.inl rfl) (pe_lst pa_nil))
      (C8.pss_cut (ps_if (pt_cmpR op_gt (pv 3) pe_int (nomark _))
        (pss_one (ps_setLc (i := 4) (own := [("_law_k", 5)]) (g := gName 5) (tt := tYes) (by rfl) sc_l_parts.nd rfl rfl (sw_true rfl rfl rfl (by decide +kernel))
          (pi_range1 rfl B.range (pa_cons (pe_call GB hr1 (by rfl) gB kB bB .nil pass0 (pa_cons (pv 0) (pa_cons (pe_op op_add (pv 1) pe_int) pa_nil))) pa_nil))
          (blkOk_by (N := N_l_parts) (sc := defScope s_l_parts) (by decide +kernel)) (fun _ _ _ _ _ => pg_name (i := 5) sc_l_parts.nd rfl (.inl rfl)) (fun _ _ _ _ _ => pts_nil)
          (fun _ _ _ _ _ => pe_call GO hr (by rfl) gO kO bO .nil pass0 (pa_cons (pv 0) (pa_cons (pv 2) (pa_cons (pv 3) pa_nil)))))) pss_nil)
      (pss_one (ps_ret (pe_tup (pa_cons (pv 2) (pa_cons (pv 3) (pa_cons (pe_callTy call_tuple_of (by rfl) B.tuple (by decide +kernel) (pa_cons (pv 4) pa_nil)) pa_nil))))))))), ?_⟩
    -- period
    refine ⟨_, rfl, d, 5, rfl, hD, by decide, by decide, fun H1 x1 hx1 b1 D1 => ?_⟩
    refine ⟨_, _, rfl, rfl, _, rfl, d, 9, rfl, D1, by decide, by decide, fun H2 x2 hx2 b2 D2 => ?_⟩
    refine ⟨_, _, rfl, rfl, _, rfl, d, 30, rfl, D2, by decide, by decide, fun H3 x3 hx3 b3 D3 => ?_⟩
    refine ⟨_, _, rfl, rfl, (by show 3 ≤ sizeLine; decide), fun l nl => ?_⟩
    have D3' := D3.but (same_upd (o := HO.lst [V.int (1 + (x1 : Int)), V.int (1 + (x2 : Int)), V.int (1 + (x3 : Int))]) nl)
    have ndl : d ≠ l := ne_of_none D3.som.choose_spec nl
    refine ⟨_, rfl, d, 3, rfl, D3', by decide, by decide, fun H4 x4 hx4 b4 D4 => ?_⟩
    have hl4 := b4 l _ ndl.symm upd_same
    obtain ⟨p, hp, p1, p30⟩ : ∃ p : Nat, atI [V.int (1 + (x1 : Int)), V.int (1 + (x2 : Int)), V.int (1 + (x3 : Int))] (x4 : Int) = some (V.int p) ∧ 1 ≤ p ∧ p ≤ 30 := by
      obtain ⟨v, h1, h2⟩ := three_at (x := V.int (1 + (x1 : Int))) (y := V.int (1 + (x2 : Int))) (z := V.int (1 + (x3 : Int))) hx4
      rcases h2 with h2 | h2 | h2
      · exact ⟨1 + x1, by rw [h1, h2, Int.natCast_add]; rfl, by omega, by omega⟩
      · exact ⟨1 + x2, by rw [h1, h2, Int.natCast_add]; rfl, by omega, by omega⟩
      · exact ⟨1 + x3, by rw [h1, h2, Int.natCast_add]; rfl, by omega, by omega⟩
    refine ⟨l, _, _, _, rfl, rfl, SqL.of hl4, hp, ?_⟩
    have B4 : But d H H4 := b1.trans (b2.trans (b3.trans ((But.new nl).trans b4)))
    -- houses
    refine ⟨_, rfl, d, 3, rfl, D4, by decide, by decide, fun H5 y1 hy1 b5 D5 => ?_⟩
    refine ⟨_, _, rfl, rfl, _, rfl, d, 10, rfl, D5, by decide, by decide, fun H6 y2 hy2 b6 D6 => ?_⟩
    refine ⟨_, _, rfl, rfl, (by show 2 ≤ sizeLine; decide), fun k nk => ?_⟩
    have D6' := D6.but (same_upd (o := HO.lst [V.int (2 + (y1 : Int)), V.int (1 + (y2 : Int))]) nk)
    have ndk : d ≠ k := ne_of_none D6.som.choose_spec nk
    refine ⟨_, rfl, d, 2, rfl, D6', by decide, by decide, fun H7 y3 hy3 b7 D7 => ?_⟩
    have hk7 := b7 k _ ndk.symm upd_same
    obtain ⟨h, hh, h1, h10⟩ : ∃ h : Nat, atI [V.int (2 + (y1 : Int)), V.int (1 + (y2 : Int))] (y3 : Int) = some (V.int h) ∧ 1 ≤ h ∧ h ≤ 10 := by
      obtain ⟨v, q1, q2⟩ := two_at (x := V.int (2 + (y1 : Int))) (y := V.int (1 + (y2 : Int))) hy3
      rcases q2 with q2 | q2
      · exact ⟨2 + y1, by rw [q1, q2, Int.natCast_add]; rfl, by omega, by omega⟩
      · exact ⟨1 + y2, by rw [q1, q2, Int.natCast_add]; rfl, by omega, by omega⟩
    refine ⟨k, _, _, _, rfl, rfl, SqL.of hk7, hh, ?_⟩
    have B7 : But d H H7 := B4.trans (b5.trans (b6.trans ((But.new nk).trans b7)))
    -- orders = []
    refine ⟨Nat.zero_le _, fun o0 no0 => ?_⟩
    have D8 := D7.but (same_upd (o := HO.lst []) no0)
    have B8 : But d H (L2.upd H7 o0 (.lst [])) := B7.trans (.new no0)
    refine ⟨fun σ' H' => ∃ (o1 : Addr) (ts : List V) (os : List Od), σ' = [some (V.ref d), some (V.int m), some (V.int p), some (V.int h), some (V.ref o1), none] ∧ But d H H' ∧ DAt H' d ∧ H' o1 = some (.lst ts) ∧ Paired (OrdAt H') ts os ∧ os.length ≤ m ∧ ∀ o ∈ os, OdOk p h o, ?_, ?_⟩
    · refine ⟨_, rfl, _, _, rfl, rfl, _, rfl, ite2 (fun e => ?_) (fun _ => ⟨o0, [], [], rfl, B8, D8, upd_same, .nil, Nat.zero_le _, fun _ z => by cases z⟩)⟩
      have h2 : (1 : Int) < h := of_decide_eq_true e
      refine ⟨_, rfl, _, rfl, _, _, rfl, rfl, d, m + 1, by rw [Int.natCast_add]; rfl, D8, by omega, by omega, fun H9 n hn b9 D9 => ?_⟩
      refine ⟨_, rfl, by omega, by omega, fun D nD => ?_⟩
      have D9' := D9.but (same_upd (o := HO.lst []) nD)
      have ndD : d ≠ D := ne_of_none D9.som.choose_spec nD
      refine lc_range (lo := 0) (n := ((n : Int)).toNat) (fun i H' => But d H H' ∧ DAt H' d ∧ ∃ (ts : List V) (os : List Od), H' D = some (.lst ts) ∧ ts.length = i ∧ Paired (OrdAt H') ts os ∧ ∀ o ∈ os, OdOk p h o)
        ⟨B8.trans (b9.trans (.new nD)), D9', [], [], upd_same, rfl, .nil, fun _ z => by cases z⟩ ?_ ?_
      · rintro i H' hi ⟨bb, DD, ts, os, hDD, hlen, hP, hOk⟩
        refine ⟨rfl, ?_⟩
        refine ⟨_, rfl, _, rfl, _, rfl, d, p, h, rfl, DD, by omega, p30, by omega, h10, fun H2 t o hok b2 D2 nt ht => ?_⟩
        have hD2 := b2 D _ ndD.symm hDD
        have tk := b2.tk DD
        have ntD : t ≠ D := (ne_of_none hDD nt).symm
        refine ⟨ts, hD2, small1000 (by omega), (bb.trans b2).updN ((B8.trans b9).free D9.som.choose_spec nD), D2.updN ndD, ts ++ [.ref t], os ++ [o], upd_same, by rw [List.length_append, hlen]; rfl, ?_, ?_⟩
        · refine Paired.snoc (OrdsAt.keep (tk.trans (TupKeep.lst hD2)) hP) ⟨t, rfl, ?_⟩
          rw [upd_ne ntD]
          exact ht
        · intro o' ho'
          rcases List.mem_append.mp ho' with z | z
          · exact hOk o' z
          · rw [List.mem_singleton.mp z]
            exact hok
      · rintro H' ⟨bb, DD, ts, os, hDD, hlen, hP, hOk⟩
        refine ⟨D, ts, os, rfl, bb, DD, hDD, hP, ?_, hOk⟩
        rw [← hP.length, hlen]
        omega
    · rintro σ' H' ⟨o1, ts, os, rfl, bb, DD, ho1, hP, hm2, hOk⟩
      refine ⟨_, rfl, _, rfl, _, rfl, o1, ts, rfl, .inl ⟨SqL.of ho1, fun t nt => ?_⟩⟩
      refine ⟨(by show 3 ≤ sizeLine; decide), fun a na => ?_⟩
      have s1 := same_upd (o := HO.tup ts) nt
      have s2 := same_upd (o := HO.tup [V.int p, V.int h, V.ref t]) na
      refine q _ a p h os ⟨p1, p30, h1, h10, by omega, hOk⟩ hm2 (bb.trans ((But.of s1).trans (.of s2))) (DD.but (s1.trans s2)) (bb.free DD.som.choose_spec (s1.free na)) ⟨t, upd_same, ts, ?_, OrdsAt.keep (tk_of (s1.trans s2)) hP⟩
      rw [upd_ne (ne_of_none (upd_same (H := H')) na), upd_same]
end
abbrev s_is_integer : Stmt := top 7
abbrev N_is_integer : List Str := ["value"]
abbrev P_is_integer : List Str := ["value"]
theorem sc_is_integer : FnScope N_is_integer P_is_integer (defScope s_is_integer) := ⟨rfl, rfl, rfl, by decide +kernel, rfl, by decide +kernel, by decide +kernel⟩
abbrev s_is_within : Stmt := top 8
abbrev N_is_within : List Str := ["value", "low", "high"]
abbrev P_is_within : List Str := ["value", "low", "high"]
theorem sc_is_within : FnScope N_is_within P_is_within (defScope s_is_within) := ⟨rfl, rfl, rfl, by decide +kernel, rfl, by decide +kernel, by decide +kernel⟩
abbrev s_is_order : Stmt := top 17
abbrev N_is_order : List Str := ["period", "houses", "order", "source", "target", "first", "days", "delay"]
abbrev P_is_order : List Str := ["period", "houses", "order"]
theorem sc_is_order : FnScope N_is_order P_is_order (defScope s_is_order) := ⟨rfl, rfl, rfl, by decide +kernel, rfl, by decide +kernel, by decide +kernel⟩
abbrev s_check_orders : Stmt := top 18
abbrev N_check_orders : List Str := ["period", "houses", "orders", "index", "order"]
abbrev P_check_orders : List Str := ["period", "houses", "orders"]
theorem sc_check_orders : FnScope N_check_orders P_check_orders (defScope s_check_orders) := ⟨rfl, rfl, rfl, by decide +kernel, rfl, by decide +kernel, by decide +kernel⟩
/-! ### is_within, is_order, check_orders -/
/-- a value that is no int (a bool, or a thing of another built-in type) -/
def NotInt (K : PySem.W.Frag) (H : Hp) (x : V) : Prop := (∃ b, x = .bl b) ∨ ∃ t, TyX K H x (.type t) ∧ kitB t "int" = some false
def Kn (K : PySem.W.Frag) (H : Hp) (x : V) : Prop := (∃ i, x = .int i) ∨ (NotInt K H x ∧ ∀ i, x ≠ .int i)
def withinB (x : V) (lo hi : Int) : Bool := match x with
  | .int v => decide (lo ≤ v) && decide (v ≤ hi)
  | _ => false
theorem Kn.int {K : PySem.W.Frag} {H : Hp} {i : Int} : Kn K H (.int i) := .inl ⟨i, rfl⟩
theorem withinB_no {x : V} {lo hi : Int} (h : ∀ i, x ≠ .int i) : withinB x lo hi = false := by
  unfold withinB
  split
  · rename_i v
    exact absurd rfl (h v)
  · rfl
def isIntB (x : V) : Bool := match x with
  | .int _ => true
  | _ => false
theorem isIntB_no {x : V} (h : ∀ i, x ≠ .int i) : isIntB x = false := by
  unfold isIntB
  split
  · rename_i v
    exact absurd rfl (h v)
  · rfl
def spIsInt (K : PySem.W.Frag) : Sp := fun vs H Q _ => ∃ (x : V), vs = [x] ∧ Kn K H x ∧ Q (.bl (isIntB x)) H
def spWithin (K : PySem.W.Frag) : Sp := fun vs H Q _ => ∃ (x : V) (lo hi : Int), vs = [x, .int lo, .int hi] ∧ Kn K H x ∧ Q (.bl (withinB x lo hi)) H
section
variable {P : Program} {w : World} {K : PySem.W.Frag} {mg : Str → Option Value} {base : Heap}
theorem ok_isint {f : Addr} {fd : FuncData} (F : Fun K "is_integer" "is_integer" s_is_integer f fd) (B : Blt mg) : FnOk P w K mg base CX0 1 f fd P_is_integer (spIsInt K) := by
  refine F.ok sc_is_integer (fun vs H Q E h => ?_) (fun cdv A outer s H vs Q E hr h => ?_)
  · obtain ⟨x, rfl, _⟩ := h
    rfl
  · obtain ⟨x, rfl, hk, q⟩ := h
    refine ⟨_, pss_one (ps_ret (pe_and (pe_callB call_isi (by rfl) B.isi PyProof.Rows.boot_isinstance (pa_cons (pv 0) (pa_cons (pe_bltn (v := .ty "int") (by rfl) B.int (by decide +kernel) rfl) pa_nil)))
      (pe_one (pe_not (pe_callB call_isi (by rfl) B.isi PyProof.Rows.boot_isinstance (pa_cons (pv 0) (pa_cons (pe_bltn (v := .ty "bool") (by rfl) B.bool (by decide +kernel) rfl) pa_nil))))))), ?_⟩
    rcases hk with ⟨v, rfl⟩ | ⟨⟨b, rfl⟩ | ⟨t, ty, kt⟩, hne⟩
    · refine ⟨_, rfl, _, _, _, _, true, rfl, .ty "int", .base (.int v), kit_ty (by decide +kernel), _, rfl, iteT ?_⟩
      exact ⟨_, rfl, _, _, _, _, false, rfl, .ty "bool", .base (.int v), kit_ty (by decide +kernel), _, rfl, q⟩
    · refine ⟨_, rfl, _, _, _, _, true, rfl, .ty "int", .base (.bl b), kit_ty (by decide +kernel), _, rfl, iteT ?_⟩
      exact ⟨_, rfl, _, _, _, _, true, rfl, .ty "bool", .base (.bl b), kit_ty (by decide +kernel), _, rfl, q⟩
    · rw [isIntB_no hne] at q
      exact ⟨_, rfl, _, _, _, _, false, rfl, .ty "int", ty, kit_ty kt, _, rfl, iteF q⟩
theorem ok_within {f : Addr} {fd : FuncData} (F : Fun K "is_within" "is_within" s_is_within f fd) (DI : Df P w K mg base "is_integer" 1 P_is_integer (spIsInt K)) : FnOk P w K mg base CX0 2 f fd P_is_within (spWithin K) := by
  obtain ⟨fI, fdI, gI, KI, bI, GI⟩ := DI
  refine F.ok sc_is_within (fun vs H Q E h => ?_) (fun cdv A outer s H vs Q E hr h => ?_)
  · obtain ⟨x, lo, hi, rfl, _⟩ := h
    rfl
  · obtain ⟨x, lo, hi, rfl, hk, q⟩ := h
    refine ⟨_, pss_one (ps_ret (pe_and (pe_call GI hr (by rfl) gI KI bI .nil pass0 (pa_cons (pv 0) pa_nil))
      (pe_one (pe_chain op_le op_le (pv 1) (pv 0) (pv 2))))), ?_⟩
    refine ⟨_, rfl, x, rfl, hk, ?_⟩
    cases x with
    | int v =>
      refine ⟨_, rfl, iteT ?_⟩
      refine ⟨_, rfl, _, rfl, _, _, rfl, rfl, _, rfl, ite2 (fun e => ?_) (fun e => ?_)⟩
      · refine ⟨_, rfl, _, _, rfl, rfl, ?_⟩
        have q2 : Q (.bl (decide (lo ≤ v) && decide (v ≤ hi))) H := q
        rw [e, Bool.true_and] at q2
        exact q2
      · have q2 : Q (.bl (decide (lo ≤ v) && decide (v ≤ hi))) H := q
        rw [Bool.eq_false_iff.mpr e, Bool.false_and] at q2
        exact q2
    | _ => exact ⟨_, rfl, iteF q⟩
end
/-- what is_order says of the values of a tuple -/
def orderB (p h : Int) : List V → Bool
  | [s, t, f, n, e] => withinB s 0 (h - 1) && (withinB t 0 (h - 1) && (!decide (s = t) && (withinB f 0 (p - 1) && (withinB n 1 p && withinB e 1 9))))
  | _ => false
theorem within_nat {v lo hi : Nat} (h1 : lo ≤ v) (h2 : v ≤ hi) : withinB (.int v) lo hi = true := by
  show (decide ((lo : Int) ≤ v) && decide ((v : Int) ≤ hi)) = true
  rw [decide_eq_true (by omega), decide_eq_true (by omega)]
  rfl
theorem orderB_ok {p h : Nat} {o : Od} (k : OdOk p h o) : orderB p h o.vs = true := by
  have a1 := k.s; have a2 := k.t; have a3 := k.st; have a4 := k.f; have a5 := k.n1; have a6 := k.n; have a7 := k.e1; have a8 := k.e
  show (withinB (.int o.s) 0 ((h : Int) - 1) && (withinB (.int o.t) 0 ((h : Int) - 1) && (!decide (V.int o.s = V.int o.t) && (withinB (.int o.f) 0 ((p : Int) - 1) && (withinB (.int o.n) 1 p && withinB (.int o.e) 1 9))))) = true
  have e1 : ((h : Int) - 1) = ((h - 1 : Nat) : Int) := by omega
  have e2 : ((p : Int) - 1) = ((p - 1 : Nat) : Int) := by omega
  rw [e1, e2]
  have b1 : withinB (.int o.s) 0 ((h - 1 : Nat) : Int) = true := within_nat (lo := 0) (by omega) (by omega)
  have b2 : withinB (.int o.t) 0 ((h - 1 : Nat) : Int) = true := within_nat (lo := 0) (by omega) (by omega)
  have b3 : withinB (.int o.f) 0 ((p - 1 : Nat) : Int) = true := within_nat (lo := 0) (by omega) (by omega)
  have b4 : withinB (.int o.n) 1 p = true := within_nat (lo := 1) (by omega) (by omega)
  have b5 : withinB (.int o.e) 1 9 = true := within_nat (lo := 1) (hi := 9) (by omega) (by omega)
  have b6 : decide (V.int (o.s : Int) = V.int o.t) = false := decide_eq_false fun z => a3 (by
    have z2 := V.int.inj z
    omega)
  rw [b1, b2, b3, b4, b5, b6]
  rfl
/-- what may be asked whether it is an order: a tuple of known values, or a thing that is no tuple -/
def OrderLike (K : PySem.W.Frag) (H : Hp) (v : V) (p h : Int) (b : Bool) : Prop :=
  (∃ a xs, v = .ref a ∧ H a = some (.tup xs) ∧ (∀ x ∈ xs, Kn K H x) ∧ b = orderB p h xs) ∨ (∃ t, TyX K H v (.type t) ∧ kitB t "tuple" = some false ∧ b = false)
theorem OrdAt.like {K : PySem.W.Frag} {H : Hp} {v : V} {o : Od} {p h : Nat} (k : OdOk p h o) (q : OrdAt H v o) : OrderLike K H v p h true := by
  obtain ⟨t, rfl, ht⟩ := q
  refine .inl ⟨t, _, rfl, ht, fun x hx => ?_, (orderB_ok k).symm⟩
  unfold Od.vs at hx
  simp only [List.mem_cons, List.not_mem_nil, or_false] at hx
  rcases hx with rfl | rfl | rfl | rfl | rfl <;> exact Kn.int
theorem withinB_int {x : V} {lo hi : Int} (h : withinB x lo hi = true) : ∃ i, x = .int i := by
  cases x <;> first
    | exact ⟨_, rfl⟩
    | cases h
def spIsOrder (K : PySem.W.Frag) : Sp := fun vs H Q _ => ∃ (v : V) (p h : Int) (b : Bool), vs = [.int p, .int h, v] ∧ OrderLike K H v p h b ∧ Q (.bl b) H
section
variable {P : Program} {w : World} {K : PySem.W.Frag} {mg : Str → Option Value} {base : Heap}
theorem ok_is_order {f : Addr} {fd : FuncData} (F : Fun K "is_order" "is_order" s_is_order f fd) (B : Blt mg) (DW : Df P w K mg base "is_within" 2 P_is_within (spWithin K)) (hM : ∃ t, mg "LONGEST_DELAY" = some (.int 9 t)) : FnOk P w K mg base CX0 3 f fd P_is_order (spIsOrder K) := by
  obtain ⟨fW, fdW, gW, kW, bW, GW⟩ := DW
  obtain ⟨tk9, hM⟩ := hM
  refine F.ok sc_is_order (fun vs H Q E h => ?_) (fun cdv A outer s H vs Q E hr h => ?_)
  · obtain ⟨v, p, h, b, rfl, _⟩ := h
    rfl
  · obtain ⟨v, p, h, b, rfl, hl, q⟩ := h
    refine ⟨_, pss_cons (ps_if (PW.pt (pw_or (pt_not (pt_val (pe_callB call_isi (by rfl) B.isi PyProof.Rows.boot_isinstance (pa_cons (pv 2) (pa_cons (pe_bltn (v := .ty "tuple") (by rfl) B.tuple (by decide +kernel) rfl) pa_nil)))))
        (pw_or1 (pt_cmpR op_ne (pe_callB call_len_seq (by rfl) B.len PySem.boot_len (pa_cons (pv 2) pa_nil)) pe_int (nomark _))))) (pss_one (ps_ret pe_bl)) pss_nil)
      (pss_cons (ps_asg (pv 2) (pg_tup (by rfl) (pgs_cons (pg_name (i := 3) sc_is_order.nd rfl (.inl rfl)) (pgs_cons (pg_name (i := 4) sc_is_order.nd rfl (.inl rfl)) (pgs_cons (pg_name (i := 5) sc_is_order.nd rfl (.inl rfl))
        (pgs_cons (pg_name (i := 6) sc_is_order.nd rfl (.inl rfl)) (pgs_cons (pg_name (i := 7) sc_is_order.nd rfl (.inl rfl)) pgs_nil)))))))
      (pss_cons (ps_if (pt_not (PW.pt (pw_and (pt_val (pe_call GW hr (by rfl) gW kW bW .nil pass0 (pa_cons (pv 3) (pa_cons pe_int (pa_cons (pe_op op_sub (pv 1) pe_int) pa_nil)))))
        (pw_and (pt_val (pe_call GW hr (by rfl) gW kW bW .nil pass0 (pa_cons (pv 4) (pa_cons pe_int (pa_cons (pe_op op_sub (pv 1) pe_int) pa_nil)))))
          (pw_and1 (pt_cmpR op_ne (pv 3) (pv 4) (nomark _))))))) (pss_one (ps_ret pe_bl)) pss_nil)
      (pss_one (ps_ret (pe_and (pe_call GW hr (by rfl) gW kW bW .nil pass0 (pa_cons (pv 5) (pa_cons pe_int (pa_cons (pe_op op_sub (pv 0) pe_int) pa_nil))))
        (pe_and (pe_call GW hr (by rfl) gW kW bW .nil pass0 (pa_cons (pv 6) (pa_cons pe_int (pa_cons (pv 0) pa_nil))))
          (pe_one (pe_call GW hr (by rfl) gW kW bW .nil pass0 (pa_cons (pv 7) (pa_cons pe_int (pa_cons (pe_glob (v := .int 9) rfl hM ⟨_, rfl⟩) pa_nil))))))))))), ?_⟩
    rcases hl with ⟨a, xs, rfl, ha, hkn, rfl⟩ | ⟨t, ty, kt, rfl⟩
    · refine ⟨_, rfl, _, _, _, _, true, rfl, .ty "tuple", .base (.tup ha), kit_ty (by decide +kernel), _, rfl, iteF ?_⟩
      refine ⟨_, rfl, a, xs, rfl, .inr (SqT.of ha), rfl, _, rfl, ?_⟩
      refine ite2 (fun e => ?_) (fun e => ?_)
      · have hne : orderB p h xs = false := by
          match xs, e with
          | [], _ => rfl
          | [_], _ => rfl
          | [_, _], _ => rfl
          | [_, _, _], _ => rfl
          | [_, _, _, _], _ => rfl
          | [_, _, _, _, _], e => exact absurd e (by show ¬ (!decide (V.int ((5 : Nat) : Int) = V.int 5)) = true; decide)
          | _ :: _ :: _ :: _ :: _ :: _ :: _, _ => rfl
        rw [hne] at q
        exact q
      · have h5 : xs.length = 5 := by
          by_cases z : xs.length = 5
          · exact z
          · exact absurd (show (!decide (V.int (xs.length : Int) = V.int 5)) = true by
              rw [decide_eq_false (fun z2 => z (by have z3 := V.int.inj z2; omega))]
              rfl) e
        match xs, h5 with
        | [x1, x2, x3, x4, x5], _ =>
          have k1 := hkn x1 (by simp)
          have k2 := hkn x2 (by simp)
          have k3 := hkn x3 (by simp)
          have k4 := hkn x4 (by simp)
          have k5 := hkn x5 (by simp)
          refine ⟨_, rfl, a, _, rfl, SqT.of ha, rfl, _, _, rfl, _, _, rfl, _, _, rfl, _, _, rfl, _, _, rfl, rfl, ?_⟩
          have q2 : Q (.bl (withinB x1 0 (h - 1) && (withinB x2 0 (h - 1) && (!decide (x1 = x2) && (withinB x3 0 (p - 1) && (withinB x4 1 p && withinB x5 1 9)))))) H := q
          refine ⟨_, rfl, _, rfl, _, _, rfl, rfl, x1, 0, h - 1, rfl, k1, _, rfl, ite2 (fun e1 => ?_) (fun e1 => ?_)⟩
          · refine ⟨_, rfl, _, rfl, _, _, rfl, rfl, x2, 0, h - 1, rfl, k2, _, rfl, ite2 (fun e2 => ?_) (fun e2 => ?_)⟩
            · obtain ⟨i1, rfl⟩ := withinB_int e1
              obtain ⟨i2, rfl⟩ := withinB_int e2
              rw [e1, e2, Bool.true_and, Bool.true_and] at q2
              refine ⟨_, rfl, _, rfl, rfl, _, rfl, ?_⟩
              by_cases z : V.int i1 = V.int i2
              · rw [decide_eq_true z] at q2
                rw [decide_eq_true z]
                exact q2
              · rw [decide_eq_false z, Bool.not_false, Bool.true_and] at q2
                rw [decide_eq_false z]
                refine ⟨_, rfl, _, rfl, _, _, rfl, rfl, x3, 0, p - 1, rfl, k3, _, rfl, ite2 (fun e3 => ?_) (fun e3 => ?_)⟩
                · rw [e3, Bool.true_and] at q2
                  refine ⟨_, rfl, _, rfl, x4, 1, p, rfl, k4, _, rfl, ite2 (fun e4 => ?_) (fun e4 => ?_)⟩
                  · rw [e4, Bool.true_and] at q2
                    exact ⟨_, rfl, x5, 1, 9, rfl, k5, q2⟩
                  · rw [Bool.eq_false_iff.mpr e4, Bool.false_and] at q2
                    exact q2
                · rw [Bool.eq_false_iff.mpr e3, Bool.false_and] at q2
                  exact q2
            · rw [e1, Bool.eq_false_iff.mpr e2, Bool.true_and, Bool.false_and] at q2
              exact iteT q2
          · rw [Bool.eq_false_iff.mpr e1, Bool.false_and] at q2
            exact iteT q2
    · exact ⟨_, rfl, _, _, _, _, false, rfl, .ty "tuple", ty, kit_ty kt, _, rfl, iteT q⟩
end
/-! ### walks over an enumerated tuple; check_orders for valid nets; find_followed -/
theorem for_enumT {K : PySem.W.Frag} {a : Addr} {xs : List V} {g : TG} {tb : TS} {D : Ends} {σ : L2.St} {H : Hp} (Pv : Nat → L2.St → Hp → Prop) (h0 : Pv 0 σ H) (hl : ∀ i σ H, Pv i σ H → H a = some (.tup xs))
    (hs : ∀ i x σ H T, xs[i]? = some x → Pv i σ H → H T = none → g (.ref T) σ (upd H T (.tup [.int (i : Nat), x])) fun σ2 H2 => tb { D with nx := Pv (i + 1), ct := Pv (i + 1), bk := D.nx } σ2 H2) (hd : ∀ σ H, Pv xs.length σ H → D.nx σ H) :
    ∃ W : Nat → Nat → L2.St → Hp → Prop, (∃ m, W 0 m σ H) ∧ ∀ i m σ H, W i m σ H →
      ((IteT K a).stop i H ∧ D.nx σ H) ∨ ((IteT K a).go i H ∧ ∃ N : L2.St → Hp → Prop, (∀ σ' H', N σ' H' → ∃ m', m' < m ∧ W (i + 1) m' σ' H') ∧ ∀ x H', (IteT K a).yld i H x H' → g x σ H' fun σ2 H2 => tb { D with nx := N, ct := N, bk := D.nx } σ2 H2) := by
  refine ⟨fun i m σ H => m = xs.length - i ∧ i ≤ xs.length ∧ Pv i σ H, ⟨xs.length, rfl, Nat.zero_le _, h0⟩, ?_⟩
  rintro i m σ H ⟨rfl, hi, p⟩
  have q := hl i σ H p
  by_cases hlt : i < xs.length
  · refine .inr ⟨⟨xs, xs[i], SqT.of q, List.getElem?_eq_getElem hlt⟩, Pv (i + 1), fun σ' H' p' => ⟨xs.length - (i + 1), by omega, rfl, hlt, p'⟩, fun x H' y => ?_⟩
    obtain ⟨T, x', rfl, nT, rfl, f⟩ := y
    obtain rfl : x' = xs[i] := Option.some.inj ((f xs (SqT.of q)).symm.trans (List.getElem?_eq_getElem hlt))
    exact hs i _ σ H T (List.getElem?_eq_getElem hlt) p nT
  · refine .inl ⟨⟨xs, SqT.of q, by omega⟩, hd σ H ?_⟩
    rw [show xs.length = i by omega]
    exact p
def spChkOrders : Sp := fun vs H Q _ => ∃ (t : Addr) (p h : Nat) (os : List Od), vs = [.int p, .int h, .ref t] ∧ NetOk p h os ∧ OrdsTup H t os ∧ ∀ H', Same H H' → Q .non H'
section
variable {P : Program} {w : World} {K : PySem.W.Frag} {mg : Str → Option Value} {base : Heap}
theorem ok_chk_orders {f : Addr} {fd : FuncData} (F : Fun K "check_orders" "check_orders" s_check_orders f fd) (B : Blt mg) (DI : Df P w K mg base "is_order" 3 P_is_order (spIsOrder K)) (hM : ∃ t, mg "MOST_ORDERS" = some (.int 20 t)) : FnOk P w K mg base CX0 4 f fd P_check_orders spChkOrders := by
  obtain ⟨fI, fdI, gI, kI, bI, GI⟩ := DI
  obtain ⟨tk20, hM⟩ := hM
  refine F.ok sc_check_orders (fun vs H Q E h => ?_) (fun cdv A outer s H vs Q E hr h => ?_)
  · obtain ⟨t, p, h, os, rfl, _⟩ := h
    rfl
  · obtain ⟨t, p, h, os, rfl, N, ⟨ts, ht, hP⟩, q⟩ := h
    refine ⟨_, pss_cons (ps_if (pt_not (pt_val (pe_callB call_isi (by rfl) B.isi PyProof.Rows.boot_isinstance (pa_cons (pv 2) (pa_cons (pe_bltn (v := .ty "tuple") (by rfl) B.tuple (by decide +kernel) rfl) pa_nil))))) (pss_one ps_never) pss_nil)
      (pss_one (ps_for PassesOwn.never rfl (pi_enumT (by rfl) B.enum (pa_cons (pv 2) pa_nil)) (pg_tup (by rfl) (pgs_cons (pg_name (i := 3) sc_check_orders.nd rfl (.inl rfl)) (pgs_cons (pg_name (i := 4) sc_check_orders.nd rfl (.inl rfl)) pgs_nil)))
        (pss_one (ps_if (PW.pt (pw_or (pt_cmpR op_eq (pv 3) (pe_glob (v := .int 20) rfl hM ⟨_, rfl⟩) (nomark _)) (pw_or1 (pt_not (pt_val (pe_call GI hr (by rfl) gI kI bI .nil pass0 (pa_cons (pv 0) (pa_cons (pv 1) (pa_cons (pv 4) pa_nil)))))))))
          (pss_one ps_never) pss_nil)))), ?_⟩
    refine ⟨_, rfl, _, _, _, _, true, rfl, .ty "tuple", .base (.tup ht), kit_ty (by decide +kernel), _, rfl, iteF ?_⟩
    refine ⟨_, rfl, t, ts, rfl, ht, for_enumT (K := K) (a := t) (xs := ts) (fun i σ H' => (∃ x y, σ = [some (.int p), some (.int h), some (.ref t), x, y]) ∧ Same H H') ⟨⟨_, _, rfl⟩, .refl H⟩ (fun i σ H' ⟨_, s1⟩ => s1 _ _ ht) ?_ ?_⟩
    · rintro i x σ H1 T hi ⟨⟨x3, x4, rfl⟩, s1⟩ nT
      have s2 := same_upd (o := HO.tup [.int (i : Nat), x]) nT
      have hil : i < ts.length := (List.getElem?_eq_some_iff.mp hi).1
      have hlen := hP.length
      have hlen2 := N.len
      refine ⟨T, _, rfl, SqT.of upd_same, rfl, _, _, rfl, _, _, rfl, rfl, ?_⟩
      refine ⟨_, rfl, rfl, _, rfl, ?_⟩
      have e1 : decide (V.int ((i : Nat) : Int) = V.int 20) = false := decide_eq_false fun z => by
        have z2 := V.int.inj z
        omega
      rw [e1]
      obtain ⟨x', hx', ho⟩ := Paired.get? (i := i) hP (List.getElem?_eq_getElem (by omega))
      obtain rfl : x' = x := Option.some.inj (hx'.symm.trans hi)
      have hk := N.ok _ (List.getElem_mem (by omega : i < os.length))
      exact iteF ⟨_, rfl, _, rfl, _, rfl, x', p, h, true, rfl, OrdAt.like hk (ho.keep (tk_of (s1.trans s2))), _, rfl, iteF ⟨⟨_, _, rfl⟩, s1.trans s2⟩⟩
    · rintro σ H1 ⟨_, s1⟩
      exact q H1 s1
end
/-! the table of the orders that are followed -/
def amongB (p f : Nat) : Nat → Nat → Bool
  | 0, _ => false
  | l + 1, d => amongB p f l d || decide ((f + l) % p = d)
theorem amongB_iff {p f d : Nat} : ∀ l, amongB p f l d = true ↔ among p f l d
  | 0 => ⟨fun h => Bool.noConfusion h, fun h => absurd h (among_zero _ _ _)⟩
  | l + 1 => by
    show (amongB p f l d || decide ((f + l) % p = d)) = true ↔ _
    rw [among_succ, Bool.or_eq_true, amongB_iff l, decide_eq_true_iff]
def cellV (p : Nat) (os : List Od) (s d : Nat) : V := optV (idx p os s (d : Int))
/-- amid the order o, the k-th: its first l days are done -/
def cellM (p : Nat) (os : List Od) (o : Od) (k l s d : Nat) : V := optV ((idx p os s (d : Int)).or (if (decide (s = o.s) && amongB p o.f l d) = true then some k else none))
structure TabAt (H0 H : Hp) (fl : Addr) (p h : Nat) (g : Nat → Nat → V) (as : List Addr) : Prop where
  same : Same H0 H
  len : as.length = h
  fl0 : H0 fl = none
  flat : H fl = some (.lst (as.map V.ref))
  nd : as.Nodup
  out : fl ∉ as
  new : ∀ a ∈ as, H0 a = none
  row : ∀ i a, as[i]? = some a → H a = some (.lst ((List.range p).map (g i)))
theorem TabAt.congr {H0 H : Hp} {fl : Addr} {p h : Nat} {g g' : Nat → Nat → V} {as : List Addr} (T : TabAt H0 H fl p h g as) (e : ∀ s d, s < h → d < p → g s d = g' s d) : TabAt H0 H fl p h g' as := by
  refine { T with row := fun i a hi => ?_ }
  rw [T.row i a hi]
  have hi2 := (List.getElem?_eq_some_iff.mp hi).1
  rw [List.map_congr_left fun d hd => e i d (by rw [← T.len]; exact hi2) (List.mem_range.mp hd)]
theorem TabAt.keep {H0 H H' : Hp} {fl : Addr} {p h : Nat} {g : Nat → Nat → V} {as : List Addr} (T : TabAt H0 H fl p h g as) (s : Same H H') : TabAt H0 H' fl p h g as :=
  { T with same := T.same.trans s, flat := s _ _ T.flat, row := fun i a hi => s _ _ (T.row i a hi) }
theorem range_set {p dd : Nat} {g : Nat → V} {v : V} : ((List.range p).map g).set dd v = (List.range p).map fun d => if d = dd then v else g d := by
  apply List.ext_getElem
  · simp
  · intro i h1 h2
    rw [List.getElem_set]
    simp only [List.getElem_map, List.getElem_range]
    by_cases z : dd = i
    · subst z; simp
    · rw [if_neg z, if_neg (Ne.symm z)]
theorem TabAt.set {H0 H : Hp} {fl a : Addr} {p h s dd : Nat} {g : Nat → Nat → V} {as : List Addr} {v : V} (T : TabAt H0 H fl p h g as) (ha : as[s]? = some a) :
    TabAt H0 (upd H a (.lst (((List.range p).map (g s)).set dd v))) fl p h (fun i d => if i = s ∧ d = dd then v else g i d) as := by
  have ham : a ∈ as := List.mem_of_getElem? ha
  have sl : s < as.length := (List.getElem?_eq_some_iff.mp ha).1
  refine { T with same := fun b o e => ?_, flat := ?_, row := fun i b hi => ?_ }
  · have n : b ≠ a := fun z => by
      have q := T.new a ham
      rw [← z, e] at q
      cases q
    rw [upd_ne n]
    exact T.same _ _ e
  · have n : fl ≠ a := fun z => T.out (by rw [z]; exact ham)
    rw [upd_ne n]
    exact T.flat
  · by_cases z : i = s
    · subst z
      obtain rfl : b = a := Option.some.inj (hi.symm.trans ha)
      rw [upd_same, range_set]
      congr 2
      apply List.map_congr_left
      intro d _
      by_cases z2 : d = dd
      · simp [z2]
      · simp [z2]
    · have n : b ≠ a := fun z2 => by
        subst z2
        have i1 := (List.getElem?_eq_some_iff.mp hi)
        have i2 := (List.getElem?_eq_some_iff.mp ha)
        obtain ⟨l1, e1⟩ := i1
        obtain ⟨l2, e2⟩ := i2
        have pw := List.pairwise_iff_getElem.mp T.nd
        rcases Nat.lt_or_gt_of_ne z with q | q
        · exact pw i s l1 l2 q (e1.trans e2.symm)
        · exact pw s i l2 l1 q (e2.trans e1.symm)
      rw [upd_ne n, T.row i b hi]
      congr 2
      apply List.map_congr_left
      intro d _
      rw [if_neg (fun q => z q.1)]
def spFollowed : Sp := fun vs H Q _ => ∃ (t : Addr) (p h : Nat) (os : List Od), vs = [.int p, .int h, .ref t] ∧ NetOk p h os ∧ OrdsTup H t os ∧ ∀ H' fl as, TabAt H H' fl p h (cellV p os) as → Q (.ref fl) H'
theorem rep_flat {p : Nat} {v : V} : (List.replicate p [v]).flatten = List.replicate p v := by
  induction p with
  | zero => rfl
  | succ n ih => rw [List.replicate_succ, List.flatten_cons, ih]; rfl
theorem rep_range {p : Nat} {v : V} : List.replicate p v = (List.range p).map fun _ => v := by
  rw [List.map_const', List.length_range]
theorem optV_non {o : Option Nat} (h : optV o = .non) : o = none := by
  cases o with
  | none => rfl
  | some k => cases h
theorem cellM_hit {p i l s d : Nat} {os : List Od} {o : Od} (h : cellM p os o i l o.s ((o.f + l) % p) = .non) :
    (if s = o.s ∧ d = (o.f + l) % p then V.int (i : Nat) else cellM p os o i l s d) = cellM p os o i (l + 1) s d := by
  unfold cellM at *
  by_cases c : s = o.s ∧ d = (o.f + l) % p
  · rw [if_pos c]
    obtain ⟨c1, c2⟩ := c
    subst c1 c2
    have z := optV_non h
    rw [Option.or_eq_none_iff] at z
    rw [z.1]
    have e : (decide (o.s = o.s) && amongB p o.f (l + 1) ((o.f + l) % p)) = true := by
      rw [decide_eq_true rfl, Bool.true_and]
      exact (amongB_iff (l + 1)).mpr (among_succ.mpr (.inr rfl))
    rw [if_pos e]
    rfl
  · rw [if_neg c]
    have e : (decide (s = o.s) && amongB p o.f l d) = (decide (s = o.s) && amongB p o.f (l + 1) d) := by
      by_cases c1 : s = o.s
      · have c2 : ¬ (o.f + l) % p = d := fun z => c ⟨c1, z.symm⟩
        show _ = (_ && (amongB p o.f l d || decide ((o.f + l) % p = d)))
        rw [decide_eq_false c2, Bool.or_false]
      · rw [decide_eq_false c1, Bool.false_and, Bool.false_and]
    rw [e]
theorem cellM_miss {p i l s d : Nat} {os : List Od} {o : Od} (h : cellM p os o i l o.s ((o.f + l) % p) ≠ .non) : cellM p os o i l s d = cellM p os o i (l + 1) s d := by
  by_cases c : s = o.s ∧ d = (o.f + l) % p
  · obtain ⟨c1, c2⟩ := c
    subst c1 c2
    unfold cellM at *
    have e : (decide (o.s = o.s) && amongB p o.f (l + 1) ((o.f + l) % p)) = true := by
      rw [decide_eq_true rfl, Bool.true_and]
      exact (amongB_iff (l + 1)).mpr (among_succ.mpr (.inr rfl))
    rw [if_pos e]
    cases q : idx p os o.s ((o.f + l) % p : Nat) with
    | some k => rfl
    | none =>
      rw [q] at h
      by_cases c : (decide (o.s = o.s) && amongB p o.f l ((o.f + l) % p)) = true
      · rw [if_pos c]
      · rw [if_neg c] at h
        exact absurd rfl h
  · unfold cellM
    have e : (decide (s = o.s) && amongB p o.f l d) = (decide (s = o.s) && amongB p o.f (l + 1) d) := by
      by_cases c1 : s = o.s
      · have c2 : ¬ (o.f + l) % p = d := fun z => c ⟨c1, z.symm⟩
        show _ = (_ && (amongB p o.f l d || decide ((o.f + l) % p = d)))
        rw [decide_eq_false c2, Bool.or_false]
      · rw [decide_eq_false c1, Bool.false_and, Bool.false_and]
    rw [e]
theorem cellM_end {p h i s d : Nat} {os : List Od} {o : Od} (k : OdOk p h o) (hi : os[i]? = some o) (hd : d < p) : cellM p (os.take i) o i o.n s d = cellV p (os.take (i + 1)) s d := by
  unfold cellM cellV
  rw [idx_take_succ hi]
  have e : (decide (s = o.s) && amongB p o.f o.n d) = hit p s (d : Int) o := by
    unfold hit
    have e1 : amongB p o.f o.n d = onDay p o (d : Int) := by
      rw [Bool.eq_iff_iff, amongB_iff, among_on k hd]
    rw [e1]
    by_cases c : s = o.s
    · rw [decide_eq_true c, decide_eq_true c.symm]
    · rw [decide_eq_false c, decide_eq_false fun z => c z.symm]
  rw [e]
abbrev s_find_followed : Stmt := top 19
abbrev N_find_followed : List Str := ["period", "houses", "orders", "followed", "index", "source", "target", "first", "days", "delay", "later", "day", "house"]
abbrev P_find_followed : List Str := ["period", "houses", "orders"]
theorem sc_find_followed : FnScope N_find_followed P_find_followed (defScope s_find_followed) := ⟨rfl, rfl, rfl, by decide +kernel, rfl, by decide +kernel, by decide +kernel⟩
section
variable {P : Program} {w : World} {K : PySem.W.Frag} {mg : Str → Option Value} {base : Heap}
theorem ok_followed {f : Addr} {fd : FuncData} (F : Fun K "find_followed" "find_followed" s_find_followed f fd) (B : Blt mg) : FnOk P w K mg base CX0 2 f fd P_find_followed spFollowed := by
  refine F.ok sc_find_followed (fun vs H Q E h => ?_) (fun cdv A outer s H vs Q E hr h => ?_)
  · obtain ⟨t, p, h, os, rfl, _⟩ := h
    rfl
  · obtain ⟨t, p, h, os, rfl, N, hO, q⟩ := h
    obtain ⟨ts, ht, hP⟩ := id hO
    have p1 := N.p1; have p30 := N.p30; have h1 := N.h1; have h10 := N.h10; have ol := N.len
    refine ⟨_, pss_cons (ps_setLc (i := 3) (own := [("house", 12)]) (g := gName 12) (tt := tYes) (by rfl) sc_find_followed.nd rfl rfl (sw_true rfl rfl rfl (by decide +kernel))
          (pi_range1 rfl B.range (pa_cons (pv 1) pa_nil)) (blkOk_by (N := N_find_followed) (sc := defScope s_find_followed) (by decide +kernel)) (fun _ _ _ _ _ => pg_name (i := 12) sc_find_followed.nd rfl (.inl rfl)) (fun _ _ _ _ _ => pts_nil)
          (fun _ _ _ _ _ => pe_op op_rep (pe_lst (pa_cons pe_non pa_nil)) (pv 0)))
      (pss_cons (ps_for PassesOwn.never rfl (pi_enumT (by rfl) B.enum (pa_cons (pv 2) pa_nil)) (pg_tup (by rfl) (pgs_cons (pg_name (i := 4) sc_find_followed.nd rfl (.inl rfl)) (pgs_cons (pg_tup (by rfl)
            (pgs_cons (pg_name (i := 5) sc_find_followed.nd rfl (.inl rfl)) (pgs_cons (pg_name (i := 6) sc_find_followed.nd rfl (.inl rfl)) (pgs_cons (pg_name (i := 7) sc_find_followed.nd rfl (.inl rfl)) (pgs_cons (pg_name (i := 8) sc_find_followed.nd rfl (.inl rfl)) (pgs_cons (pg_name (i := 9) sc_find_followed.nd rfl (.inl rfl)) pgs_nil)))))) pgs_nil)))
        (pss_one (ps_for PassesOwn.never rfl (pi_range1 rfl B.range (pa_cons (pv 8) pa_nil)) (pg_name (i := 10) sc_find_followed.nd rfl (.inl rfl))
          (pss_cons (ps_set (i := 11) sc_find_followed.nd rfl (.inl rfl) (pe_op op_modN (pe_op op_add (pv 7) (pv 10)) (pv 0)))
          (pss_one (ps_if (pt_cmpR op_isN (pe_ix ix_list (pe_ix ix_list (pv 3) (pv 5) (fun _ _ => rfl)) (pv 11) (fun _ _ => rfl)) pe_non (nomark _))
            (pss_one (ps_asg (pv 4) (pg_sub (pe_ix ix_list (pv 3) (pv 5) (fun _ _ => rfl)) (pv 11) set_list))) pss_nil))))))
      (pss_one (ps_ret (pv 3)))), ?_⟩
    -- the empty table
    refine ⟨_, rfl, h, rfl, by omega, by omega, fun D nD => ?_⟩
    refine lc_range (lo := 0) (n := (h : Int).toNat) (fun i H' => ∃ as, TabAt H H' D p i (fun _ _ => .non) as) ⟨[], same_upd nD, rfl, nD, upd_same, List.nodup_nil, by simp, by simp, fun i a z => by simp at z⟩ ?_ ?_
    · rintro i H' hi ⟨as, T⟩
      refine ⟨rfl, Nat.le_trans (by decide : 1 ≤ 1000) (Nat.le_of_lt (small1000 (Nat.le_refl _))), fun l0 nl0 => ?_⟩
      have T1 := T.keep (same_upd (o := HO.lst [V.non]) nl0)
      refine ⟨_, rfl, l0, p, [.non], rfl, rfl, upd_same, by omega, by omega, Nat.le_of_lt (small1000 (by show 1 * (p : Int).toNat ≤ 1000; omega)), fun r nr => ?_⟩
      have T2 := T1.keep (same_upd (o := HO.lst (List.replicate (p : Int).toNat [V.non]).flatten) nr)
      have fD := T2.flat
      refine ⟨_, fD, small1000 (by rw [List.length_map, T.len]; omega), as ++ [r], ?_⟩
      have nrD : r ≠ D := (ne_of_none T1.flat nr).symm
      have nas : r ∉ as := fun z => by
        obtain ⟨j, hj⟩ := List.getElem?_of_mem z
        exact ne_of_none (T1.row j r hj) nr rfl
      have nr0 : H r = none := T1.same.free nr
      refine ⟨fun b o e => ?_, by rw [List.length_append, T.len]; rfl, T.fl0, ?_, ?_, ?_, ?_, ?_⟩
      · rw [upd_ne (ne_of_none e T.fl0)]
        exact T2.same _ _ e
      · rw [upd_same, List.map_append]
        rfl
      · rw [List.nodup_append]
        exact ⟨T.nd, by simp, fun a ha b hb => by rw [List.mem_singleton.mp hb]; exact fun z => nas (z ▸ ha)⟩
      · intro z
        rcases List.mem_append.mp z with z | z
        · exact T.out z
        · exact nrD (List.mem_singleton.mp z).symm
      · intro a ha
        rcases List.mem_append.mp ha with z | z
        · exact T.new a z
        · rw [List.mem_singleton.mp z]
          exact nr0
      · intro j a hj
        by_cases z : j < as.length
        · rw [List.getElem?_append_left z] at hj
          have hn : a ≠ D := fun z2 => T.out (by rw [← z2]; exact List.mem_of_getElem? hj)
          rw [upd_ne hn]
          exact T2.row j a hj
        · rw [List.getElem?_append_right (by omega)] at hj
          obtain ⟨hj1, hj2⟩ := List.getElem?_eq_some_iff.mp hj
          have e0 : j - as.length = 0 := by
            have : j - as.length < 1 := hj1
            omega
          have ea : a = r := by
            rw [e0] at hj
            exact (Option.some.inj hj).symm
          rw [ea, upd_ne nrD, upd_same, rep_flat, rep_range]
          rfl
    · rintro H1 ⟨as, T⟩
      have hO1 : H1 t = some (.tup ts) := T.same _ _ ht
      -- each order
      refine ⟨_, rfl, t, ts, rfl, hO1, for_enumT (K := K) (a := t) (xs := ts) (fun i σ H' => (∃ x4 x5 x6 x7 x8 x9 x10 x11, σ = [some (.int p), some (.int h), some (.ref t), some (.ref D), x4, x5, x6, x7, x8, x9, x10, x11, none]) ∧ TabAt H H' D p h (cellV p (os.take i)) as)
        ⟨⟨_, _, _, _, _, _, _, _, rfl⟩, by exact T.congr fun s d _ _ => rfl⟩ (fun i σ H' ⟨_, T'⟩ => T'.same _ _ ht) ?_ ?_⟩
      · rintro i x σ H2 X hi ⟨⟨x4, x5, x6, x7, x8, x9, x10, x11, rfl⟩, T2⟩ nX
        have T3 := T2.keep (same_upd (o := HO.tup [.int (i : Nat), x]) nX)
        have hil : i < ts.length := (List.getElem?_eq_some_iff.mp hi).1
        have hlen := hP.length
        have hio : os[i]? = some (os[i]'(by omega)) := List.getElem?_eq_getElem (by omega)
        obtain ⟨x', hx', y, rfl, hy⟩ := Paired.get? (i := i) hP hio
        obtain rfl : V.ref y = x := Option.some.inj (hx'.symm.trans hi)
        generalize eo : os[i]'(by omega) = o at hio hy
        have hk : OdOk p h o := by rw [← eo]; exact N.ok _ (List.getElem_mem _)
        have k1 := hk.s; have k4 := hk.f; have k5 := hk.n1; have k6 := hk.n
        have hy3 := T3.same _ _ hy
        refine ⟨X, _, rfl, SqT.of upd_same, rfl, _, _, rfl, _, _, rfl, ⟨y, _, rfl, SqT.of hy3, rfl, _, _, rfl, _, _, rfl, _, _, rfl, _, _, rfl, _, _, rfl, rfl, rfl, ?_⟩⟩
        refine ⟨_, rfl, o.n, rfl, by omega, by omega, for_range (lo := 0) (n := (o.n : Int).toNat) (fun l σ H' => (∃ x10 x11, σ = [some (.int p), some (.int h), some (.ref t), some (.ref D), some (.int (i : Nat)), some (.int o.s), some (.int o.t), some (.int o.f), some (.int o.n), some (.int o.e), x10, x11, none]) ∧ TabAt H H' D p h (cellM p (os.take i) o i l) as)
          ⟨⟨_, _, rfl⟩, T3.congr fun s d _ _ => ?_⟩ ?_ ?_⟩
        · show optV (idx p (os.take i) s d) = optV ((idx p (os.take i) s d).or (if (decide (s = o.s) && false) = true then some i else none))
          rw [Bool.and_false, if_neg Bool.false_ne_true, Option.or_none]
        · rintro l σ H4 hl ⟨⟨x10, x11, rfl⟩, T4⟩
          have hl2 : l < o.n := by omega
          refine ⟨_, rfl, _, rfl, _, _, rfl, rfl, _, rfl, _, _, rfl, rfl, by omega, ?_⟩
          have ed : Int.fmod ((o.f : Int) + (0 + (l : Int))) (p : Int) = (((o.f + l) % p : Nat) : Int) := by
            rw [Int.zero_add]
            exact fmod_nat (o.f + l) p
          have hd : (o.f + l) % p < p := Nat.mod_lt _ (by omega)
          generalize hdd : (o.f + l) % p = dd at ed hd
          have hsl : o.s < as.length := by rw [T4.len]; exact k1
          have ha := List.getElem?_eq_getElem hsl
          generalize as[o.s] = a at ha
          have hmap : (as.map V.ref)[o.s]? = some (.ref a) := by rw [List.getElem?_map, ha]; rfl
          have hrow := T4.row _ _ ha
          have hcell : ((List.range p).map (cellM p (os.take i) o i l o.s))[dd]? = some (cellM p (os.take i) o i l o.s dd) := by
            rw [List.getElem?_map, List.getElem?_range hd]
            rfl
          show ∃ v, _
          refine ⟨_, rfl, _, rfl, D, _, _, _, rfl, rfl, SqL.of T4.flat, atI_nat hmap, ?_⟩
          refine ⟨_, rfl, a, _, (dd : Int), _, rfl, by rw [← ed], SqL.of hrow, atI_nat hcell, ?_⟩
          refine ⟨rfl, _, rfl, ite2 (fun e => ?_) (fun e => ?_)⟩
          · have en : cellM p (os.take i) o i l o.s dd = .non := of_decide_eq_true e
            refine ⟨_, rfl, _, rfl, _, rfl, D, _, _, _, rfl, rfl, SqL.of T4.flat, atI_nat hmap, ?_⟩
            refine ⟨_, rfl, a, _, (dd : Int), dd, rfl, by rw [← ed], hrow, ix_at (by rw [List.length_map, List.length_range]; exact hd), ?_⟩
            refine ⟨⟨_, _, rfl⟩, (T4.set ha).congr fun s d hs hd2 => ?_⟩
            subst hdd
            exact cellM_hit en
          · refine ⟨⟨_, _, rfl⟩, T4.congr fun s d hs hd2 => ?_⟩
            subst hdd
            exact cellM_miss (fun z => e (decide_eq_true z))
        · rintro σ H4 ⟨⟨x10, x11, rfl⟩, T4⟩
          exact ⟨⟨_, _, _, _, _, _, _, _, rfl⟩, T4.congr fun s d hs hd => cellM_end hk hio hd⟩
      · rintro σ H2 ⟨⟨x4, x5, x6, x7, x8, x9, x10, x11, rfl⟩, T2⟩
        refine ⟨_, rfl, q _ D as (T2.congr fun s d _ _ => ?_)⟩
        rw [List.take_of_length_le (by rw [← hP.length]; exact Nat.le_refl _)]
end
abbrev s_Net_init : Stmt := inClass (top 16) 0
abbrev N_Net_init : List Str := ["self", "period", "houses", "orders"]
abbrev P_Net_init : List Str := ["self", "period", "houses", "orders"]
theorem sc_Net_init : FnScope N_Net_init P_Net_init (defScope s_Net_init) := ⟨rfl, rfl, rfl, by decide +kernel, rfl, by decide +kernel, by decide +kernel⟩
/-! ### a net, made and read -/
def NetFs (p h : Nat) (t fl : Addr) : List (Str × V) := putF "followed" (.ref fl) (putF "orders" (.ref t) (putF "houses" (.int h) (putF "period" (.int p) [])))
theorem sFO : ¬ ("orders" : Str) = "followed" := by decide +kernel
theorem sFH : ¬ ("houses" : Str) = "followed" := by decide +kernel
theorem sFP : ¬ ("period" : Str) = "followed" := by decide +kernel
theorem sOH : ¬ ("houses" : Str) = "orders" := by decide +kernel
theorem sOP : ¬ ("period" : Str) = "orders" := by decide +kernel
theorem sHP : ¬ ("period" : Str) = "houses" := by decide +kernel
theorem nf_fl {p h : Nat} {t fl : Addr} : (NetFs p h t fl).lookup ("followed" : Str) = some (.ref fl) := by
  unfold NetFs
  rw [lookup_putF, if_pos rfl]
theorem nf_or {p h : Nat} {t fl : Addr} : (NetFs p h t fl).lookup ("orders" : Str) = some (.ref t) := by
  unfold NetFs
  rw [lookup_putF, if_neg sFO, lookup_putF, if_pos rfl]
theorem nf_ho {p h : Nat} {t fl : Addr} : (NetFs p h t fl).lookup ("houses" : Str) = some (.int h) := by
  unfold NetFs
  rw [lookup_putF, if_neg sFH, lookup_putF, if_neg sOH, lookup_putF, if_pos rfl]
theorem nf_pe {p h : Nat} {t fl : Addr} : (NetFs p h t fl).lookup ("period" : Str) = some (.int p) := by
  unfold NetFs
  rw [lookup_putF, if_neg sFP, lookup_putF, if_neg sOP, lookup_putF, if_neg sHP, lookup_putF, if_pos rfl]
theorem nf_no {p h : Nat} {t fl : Addr} {m : Str} (h1 : ¬ m = "followed") (h2 : ¬ m = "orders") (h3 : ¬ m = "houses") (h4 : ¬ m = "period") : (NetFs p h t fl).lookup m = none := by
  unfold NetFs
  rw [lookup_putF, if_neg h1, lookup_putF, if_neg h2, lookup_putF, if_neg h3, lookup_putF, if_neg h4]
  rfl
/-- what the class says -/
structure NetT (K : PySem.W.Frag) (C : Addr) : Prop where
  cl : Cls K C
  nP : NoAttr K C "period"
  nH : NoAttr K C "houses"
  nO : NoAttr K C "orders"
  nF : NoAttr K C "followed"
/-- a net of these parts at x; F: its own addresses -/
def NetAt (C : Addr) (H : Hp) (x : Addr) (p h : Nat) (os : List Od) (t : Addr) (F : List Addr) : Prop := ∃ dx fl as, F = x :: fl :: as ∧ H x = some (.ins C dx (NetFs p h t fl)) ∧ OrdsTup H t os ∧
  H fl = some (.lst (as.map V.ref)) ∧ as.length = h ∧ ∀ i a, as[i]? = some a → H a = some (.lst ((List.range p).map (cellV p os i)))
theorem NetAt.keep {C : Addr} {H H' : Hp} {x : Addr} {p h : Nat} {os : List Od} {t : Addr} {F : List Addr} (N : NetAt C H x p h os t F) (k : TupKeep H H') (kf : ∀ b ∈ F, ∀ o, H b = some o → H' b = some o) : NetAt C H' x p h os t F := by
  obtain ⟨dx, fl, as, rfl, h1, h2, h3, h4, h5⟩ := N
  refine ⟨dx, fl, as, rfl, kf _ (by simp) _ h1, h2.keep k, kf _ (by simp) _ h3, h4, fun i a hi => kf _ ?_ _ (h5 i a hi)⟩
  exact List.mem_cons_of_mem _ (List.mem_cons_of_mem _ (List.mem_of_getElem? hi))
theorem NetAt.same {C : Addr} {H H' : Hp} {x : Addr} {p h : Nat} {os : List Od} {t : Addr} {F : List Addr} (N : NetAt C H x p h os t F) (s : Same H H') : NetAt C H' x p h os t F := N.keep (tk_of s) fun b _ o e => s b o e
theorem NetAt.but {C : Addr} {H H' : Hp} {x : Addr} {p h : Nat} {os : List Od} {t d : Addr} {F : List Addr} (N : NetAt C H x p h os t F) (s : But d H H') (k : TupKeep H H') (n : d ∉ F) : NetAt C H' x p h os t F := N.keep k fun b hb o e => s b o (fun z => n (z ▸ hb)) e
theorem NetAt.new {C : Addr} {H : Hp} {x : Addr} {p h : Nat} {os : List Od} {t u : Addr} {F : List Addr} (N : NetAt C H x p h os t F) (n : H u = none) : u ∉ F := by
  obtain ⟨dx, fl, as, rfl, h1, h2, h3, h4, h5⟩ := N
  intro z
  rcases List.mem_cons.mp z with z | z
  · exact ne_of_none h1 n z.symm
  rcases List.mem_cons.mp z with z | z
  · exact ne_of_none h3 n z.symm
  obtain ⟨j, hj⟩ := List.getElem?_of_mem z
  exact ne_of_none (h5 j u hj) n rfl
def spInit (C : Addr) : Sp := fun vs H Q _ => ∃ (x dx t : Addr) (p h : Nat) (os : List Od) (H0 : Hp), vs = [.ref x, .int p, .int h, .ref t] ∧ NetOk p h os ∧ OrdsTup H t os ∧ Same H0 H ∧ H0 x = none ∧ H x = some (.ins C dx []) ∧
  ∀ H' F, Same H0 H' → (∀ b ∈ F, H0 b = none) → NetAt C H' x p h os t F → Q .non H'
section
variable {P : Program} {w : World} {K : PySem.W.Frag} {mg : Str → Option Value} {base : Heap}
theorem ok_init {f C : Addr} {fd : FuncData} (F : Fun K "__init__" "Net.__init__" s_Net_init f fd) (T : NetT K C) (DW : Df P w K mg base "is_within" 2 P_is_within (spWithin K)) (DC : Df P w K mg base "check_orders" 4 P_check_orders spChkOrders)
    (DF : Df P w K mg base "find_followed" 2 P_find_followed spFollowed) (hP : ∃ t, mg "LONGEST_PERIOD" = some (.int 30 t)) (hH : ∃ t, mg "MOST_HOUSES" = some (.int 10 t)) : FnOk P w K mg base CX0 5 f fd P_Net_init (spInit C) := by
  obtain ⟨fW, fdW, gW, kW, bW, GW⟩ := DW
  obtain ⟨fC, fdC, gC, kC, bC, GC⟩ := DC
  obtain ⟨fF, fdF, gF, kF, bF, GF⟩ := DF
  obtain ⟨tkP, hP⟩ := hP
  obtain ⟨tkH, hH⟩ := hH
  refine F.ok sc_Net_init (fun vs H Q E h => ?_) (fun cdv A outer s H vs Q E hr h => ?_)
  · obtain ⟨x, dx, t, p, h, os, H0, rfl, _⟩ := h
    rfl
  · obtain ⟨x, dx, t, p, h, os, H0, rfl, N, hO, s0, x0, hx, q⟩ := h
    have hr1 : Room 2 _ := hr.mono (by decide)
    refine ⟨_, pss_cons (ps_if (pt_not (pt_val (pe_call GW hr1 (by rfl) gW kW bW .nil pass0 (pa_cons (pv 1) (pa_cons pe_int (pa_cons (pe_glob (v := .int 30) rfl hP ⟨_, rfl⟩) pa_nil)))))) (pss_one ps_never) pss_nil)
      (pss_cons (ps_if (pt_not (pt_val (pe_call GW hr1 (by rfl) gW kW bW .nil pass0 (pa_cons (pv 2) (pa_cons pe_int (pa_cons (pe_glob (v := .int 10) rfl hH ⟨_, rfl⟩) pa_nil)))))) (pss_one ps_never) pss_nil)
      (pss_cons (ps_expr (pe_call GC hr (by rfl) gC kC bC .nil pass0 (pa_cons (pv 1) (pa_cons (pv 2) (pa_cons (pv 3) pa_nil)))))
      (pss_cons (ps_fld (pv 0) (pv 1) rfl) (pss_cons (ps_fld (pv 0) (pv 2) rfl) (pss_cons (ps_fld (pv 0) (pv 3) rfl)
      (pss_one (ps_fld (pv 0) (pe_call GF hr1 (by rfl) gF kF bF .nil pass0 (pa_cons (pv 1) (pa_cons (pv 2) (pa_cons (pv 3) pa_nil)))) rfl))))))), ?_⟩
    have w1 : withinB (.int p) 1 30 = true := within_nat (lo := 1) (hi := 30) N.p1 N.p30
    have w2 : withinB (.int h) 1 10 = true := within_nat (lo := 1) (hi := 10) N.h1 N.h10
    refine ⟨_, rfl, .int p, 1, 30, rfl, .int, _, rfl, ?_⟩
    rw [w1]
    refine iteF ⟨_, rfl, .int h, 1, 10, rfl, .int, _, rfl, ?_⟩
    rw [w2]
    refine iteF ⟨_, rfl, _, rfl, _, rfl, t, p, h, os, rfl, N, hO, fun H1 s1 => ?_⟩
    have hx1 := s1 _ _ hx
    have nt : t ≠ x := by
      obtain ⟨ts, ht, _⟩ := hO
      exact ne_of ht hx (by intro z; cases z)
    refine ⟨_, rfl, _, rfl, x, C, dx, [], rfl, hx1, T.cl, T.nP, (by show 0 < 1000; decide), ?_⟩
    refine ⟨_, rfl, _, rfl, x, C, dx, _, rfl, upd_same, T.cl, T.nH, (by show 1 < 1000; decide), ?_⟩
    refine ⟨_, rfl, _, rfl, x, C, dx, _, rfl, upd_same, T.cl, T.nO, ?_, ?_⟩
    · show (putF "houses" _ (putF "period" _ [])).length < 1000
      have : (putF "houses" (.int (h : Int)) (putF "period" (.int (p : Int)) [])).length ≤ 2 := by
        show (if ("period" : Str) = "houses" then _ else _ : List (Str × V)).length ≤ 2
        rw [if_neg sHP]
        exact Nat.le_refl _
      omega
    rw [upd_upd, upd_upd]
    refine ⟨_, rfl, _, rfl, _, rfl, t, p, h, os, rfl, N, ?_, fun H2 fl as TT => ?_⟩
    · refine hO.keep fun b xs e => ?_
      have e1 := s1 _ _ e
      rw [upd_ne (ne_of e1 hx1 (by intro z; cases z))]
      exact e1
    have hx2 := TT.same _ _ (upd_same (H := H1) (a := x))
    have hflx : fl ≠ x := fun z => by
      have q1 := TT.fl0
      rw [z, upd_same] at q1
      cases q1
    have hasx : ∀ a ∈ as, a ≠ x := fun a ha z => by
      have q1 := TT.new a ha
      rw [z, upd_same] at q1
      cases q1
    refine ⟨_, rfl, x, C, dx, _, rfl, hx2, T.cl, T.nF, ?_, ?_⟩
    · show (putF "orders" _ (putF "houses" _ (putF "period" _ []))).length < 1000
      have : (putF "orders" (.ref t) (putF "houses" (.int (h : Int)) (putF "period" (.int (p : Int)) []))).length ≤ 3 := by
        show (putF "orders" (V.ref t) (if ("period" : Str) = "houses" then _ else _ : List (Str × V))).length ≤ 3
        rw [if_neg sHP]
        show (if ("period" : Str) = "orders" then _ else _ :: (if ("houses" : Str) = "orders" then _ else _) : List (Str × V)).length ≤ 3
        rw [if_neg sOP, if_neg sOH]
        exact Nat.le_refl _
      omega
    have free : ∀ b, b ≠ x → (L2.upd H1 x (.ins C dx (putF "orders" (.ref t) (putF "houses" (.int (h : Int)) (putF "period" (.int (p : Int)) []))))) b = none → H0 b = none := fun b nb e => by
      rw [upd_ne nb] at e
      exact s0.free (s1.free e)
    refine q _ (x :: fl :: as) (fun b o e => ?_) (fun b hb => ?_) ⟨dx, fl, as, rfl, upd_same, ?_, ?_, TT.len, fun i a hi => ?_⟩
    · have nb : b ≠ x := ne_of_none e x0
      rw [upd_ne nb]
      refine TT.same _ _ ?_
      rw [upd_ne nb]
      exact s1 _ _ (s0 _ _ e)
    · rcases List.mem_cons.mp hb with z | z
      · rw [z]; exact x0
      rcases List.mem_cons.mp z with z | z
      · rw [z]; exact free fl hflx TT.fl0
      · exact free b (hasx b z) (TT.new b z)
    · refine hO.keep fun b xs e => ?_
      have e1 := s1 _ _ e
      have nb : b ≠ x := ne_of e1 hx1 (by intro z; cases z)
      rw [upd_ne nb]
      refine TT.same _ _ ?_
      rw [upd_ne nb]
      exact e1
    · rw [upd_ne hflx]
      exact TT.flat
    · rw [upd_ne (hasx a (List.mem_of_getElem? hi))]
      exact TT.row i a hi
end
/-! ### the table, read -/
/-- where the table is read: followed[a][d % period] -/
theorem cell_read {C : Addr} {H : Hp} {x t : Addr} {p h a : Nat} {os : List Od} {F : List Addr} (N : NetAt C H x p h os t F) (ha : a < h) (hp : 0 < p) (d : Nat) : ∃ dx fl rows ro row, H x = some (.ins C dx (NetFs p h t fl)) ∧ H fl = some (.lst rows) ∧ rows[a]? = some (.ref ro) ∧ H ro = some (.lst row) ∧
    row[d % p]? = some (optV (idx p os a (d : Int))) := by
  obtain ⟨dx, fl, as, _, hx, _, hfl, hlen, hr⟩ := N
  have hal : a < as.length := by omega
  have e := List.getElem?_eq_getElem hal
  refine ⟨dx, fl, _, as[a], _, hx, hfl, by rw [List.getElem?_map, e]; rfl, hr a _ e, ?_⟩
  rw [List.getElem?_map, List.getElem?_range (Nat.mod_lt _ hp)]
  show some (optV (idx p os a ((d % p : Nat) : Int))) = _
  rw [idx_nat]
/-! ### stops and what is still to come: plain -/
def StopAt (H : Hp) (v : V) (s : Nat × Nat) : Prop := ∃ u, v = .ref u ∧ H u = some (.tup [.int s.1, .int s.2])
theorem StopAt.keep {H H' : Hp} {v : V} {s : Nat × Nat} (k : TupKeep H H') (h : StopAt H v s) : StopAt H' v s := by
  obtain ⟨u, e, hu⟩ := h
  exact ⟨u, e, k _ _ hu⟩
theorem StopsAt.keep {H H' : Hp} {vs : List V} {l : List (Nat × Nat)} (k : TupKeep H H') (h : Paired (StopAt H) vs l) : Paired (StopAt H') vs l := Paired.mapP h fun _ _ q => q.keep k
/-- what is still to come from a stop (or none) -/
def rest (p : Nat) (os : List Od) (n : Nat) : Option (Nat × Nat) → List (Nat × Nat)
  | none => []
  | some s => way p os n s
theorem rest_succ (p : Nat) (os : List Od) (n : Nat) (s : Nat × Nat) : rest p os (n + 1) (some s) = s :: rest p os n (hop p os s) := by
  show way p os (n + 1) s = _
  unfold way
  cases hop p os s <;> rfl
theorem rest_zero (p : Nat) (os : List Od) (o : Option (Nat × Nat)) : rest p os 0 o = [] := by cases o <;> rfl
theorem hop_house {p h : Nat} {os : List Od} {s s' : Nat × Nat} (k : NetOk p h os) (e : hop p os s = some s') : s'.1 < h := by
  unfold hop at e
  cases q : idx p os s.1 (s.2 : Int) with
  | none =>
    rw [q] at e
    cases e
  | some j =>
    simp only [q] at e
    have hj := idx_lt q
    rw [List.getElem?_eq_getElem hj] at e
    rw [← Option.some.inj e]
    exact (k.ok _ (List.getElem_mem hj)).t
/-! ### ways: plain -/
theorem way_len (p : Nat) (os : List Od) : ∀ (n : Nat) (st : Nat × Nat), (way p os n st).length ≤ n
  | 0, _ => Nat.le_refl _
  | n + 1, st => by
    show (way p os (n + 1) st).length ≤ n + 1
    rw [show way p os (n + 1) st = rest p os (n + 1) (some st) from rfl, rest_succ]
    cases h : hop p os st with
    | none => exact Nat.succ_le_succ (Nat.zero_le _)
    | some s' => exact Nat.succ_le_succ (way_len p os n s')
theorem way_house {p h : Nat} {os : List Od} (k : NetOk p h os) : ∀ {n : Nat} {st : Nat × Nat}, st.1 < h → ∀ s ∈ way p os n st, s.1 < h
  | 0, _, _, _, hm => by cases hm
  | n + 1, st, h0, s, hm => by
    rw [show way p os (n + 1) st = rest p os (n + 1) (some st) from rfl, rest_succ] at hm
    rcases List.mem_cons.mp hm with e | hm
    · rw [e]; exact h0
    · cases q : hop p os st with
      | none => rw [q] at hm; cases hm
      | some s' =>
        rw [q] at hm
        exact way_house k (hop_house k q) s hm
/-- the i-th stop, by going on from it -/
theorem way_drop {p : Nat} {os : List Od} : ∀ {n i : Nat} {st s : Nat × Nat}, (way p os n st)[i]? = some s → (way p os n st).drop i = way p os (n - i) s
  | 0, _, _, _, h => by cases h
  | n + 1, 0, st, s, h => by
    have e : st = s := Option.some.inj h
    subst e
    rfl
  | n + 1, i + 1, st, s, h => by
    have e : way p os (n + 1) st = st :: rest p os n (hop p os st) := rest_succ p os n st
    rw [e] at h ⊢
    rw [List.getElem?_cons_succ] at h
    rw [List.drop_succ_cons, Nat.succ_sub_succ]
    cases q : hop p os st with
    | none => rw [q] at h; cases h
    | some s' =>
      rw [q] at h
      exact way_drop h
/-! ### a letter followed to its end -/
def plc (p : Nat) (s : Nat × Nat) : Nat × Nat := (s.1, s.2 % p)
/-- the stops up to the first that comes back to an earlier one's place, and that one's index -/
def fol (p : Nat) : List (Nat × Nat) → List (Nat × Nat) → List (Nat × Nat) × Option Nat
  | done, [] => (done, none)
  | done, s :: r => match done.findIdx? (fun t => decide (plc p t = plc p s)) with
    | some b => (done ++ [s], some b)
    | none => fol p (done ++ [s]) r
def folR (p h : Nat) (os : List Od) (st : Nat × Nat) : List (Nat × Nat) × Option Nat := fol p [] (way p os (h * p + 1) st)
def keyOf (p : Nat) (s : Nat × Nat) : List Key := [Sum.inl (s.1 : Int), Sum.inl ((s.2 % p : Nat) : Int)]
def kvsFrom (p : Nat) : Nat → List (Nat × Nat) → List (List Key × V)
  | _, [] => []
  | k, s :: r => (keyOf p s, .int (k : Nat)) :: kvsFrom p (k + 1) r
theorem keyOf_eq {p : Nat} {s t : Nat × Nat} : keyOf p t = keyOf p s ↔ plc p t = plc p s := by
  unfold keyOf plc
  constructor
  · intro h
    have h1 : (t.1 : Int) = s.1 := Sum.inl.inj (List.cons.inj h).1
    have h2 : ((t.2 % p : Nat) : Int) = ((s.2 % p : Nat) : Int) := Sum.inl.inj (List.cons.inj (List.cons.inj h).2).1
    exact Prod.ext (by show t.1 = s.1; omega) (by show t.2 % p = s.2 % p; omega)
  · intro h
    have h1 : t.1 = s.1 := (Prod.mk.inj h).1
    have h2 : t.2 % p = s.2 % p := (Prod.mk.inj h).2
    rw [h1, h2]
theorem kvs_val {p : Nat} {s : Nat × Nat} : ∀ (l : List (Nat × Nat)) (k : Nat), valV (kvsFrom p k l) (keyOf p s) = (l.findIdx? fun t => decide (plc p t = plc p s)).map fun i => V.int ((k + i : Nat) : Int)
  | [], _ => rfl
  | t :: r, k => by
    rw [List.findIdx?_cons]
    unfold kvsFrom valV
    rw [List.find?_cons]
    by_cases c : plc p t = plc p s
    · have c2 : keyOf p t = keyOf p s := keyOf_eq.mpr c
      simp only [c, c2, decide_true, if_true, Option.map_some]
      rfl
    · have c2 : ¬ keyOf p t = keyOf p s := fun z => c (keyOf_eq.mp z)
      simp only [c, c2, decide_false, Bool.false_eq_true, if_false]
      have ih := kvs_val (p := p) (s := s) r (k + 1)
      unfold valV at ih
      rw [ih, Option.map_map]
      congr 1
      funext i
      show V.int ((k + 1 + i : Nat) : Int) = V.int ((k + (i + 1) : Nat) : Int)
      rw [show k + 1 + i = k + (i + 1) by omega]
theorem kvs_len {p : Nat} : ∀ (l : List (Nat × Nat)) (k : Nat), (kvsFrom p k l).length = l.length
  | [], _ => rfl
  | _ :: r, k => by
    show (kvsFrom p (k + 1) r).length + 1 = r.length + 1
    rw [kvs_len r (k + 1)]
theorem kvs_snoc {p : Nat} {s : Nat × Nat} : ∀ (l : List (Nat × Nat)) (k : Nat), kvsFrom p k (l ++ [s]) = kvsFrom p k l ++ [(keyOf p s, .int ((k + l.length : Nat) : Int))]
  | [], _ => rfl
  | t :: r, k => by
    show (keyOf p t, V.int (k : Nat)) :: kvsFrom p (k + 1) (r ++ [s]) = _
    rw [kvs_snoc r (k + 1)]
    show _ = (keyOf p t, V.int (k : Nat)) :: (kvsFrom p (k + 1) r ++ [(keyOf p s, V.int ((k + (r.length + 1) : Nat) : Int))])
    rw [show k + 1 + r.length = k + (r.length + 1) by omega]
theorem putK_new {κ : Type} [DecidableEq κ] {kvs : List (κ × V)} {k : κ} {v : V} (h : valV kvs k = none) : putK kvs k v = kvs ++ [(k, v)] := by
  unfold putK
  have e : (kvs.any fun kv => decide (kv.1 = k)) = false := by
    unfold valV at h
    rw [Option.map_eq_none_iff, List.find?_eq_none] at h
    rw [List.any_eq_false]
    exact h
  rw [e, if_neg Bool.false_ne_true]
theorem pair_last {α β : Type} {F : α → β → Prop} {y : α} {s : β} : ∀ {xs : List α} {l : List β}, Paired F (xs ++ [y]) (l ++ [s]) → F y s
  | [], [], h => by cases h with | cons r _ => exact r
  | [], b :: l, h => by
    cases h with
    | cons _ t =>
      have := t.length
      simp at this
  | a :: xs, [], h => by
    cases h with
    | cons _ t =>
      have := t.length
      simp at this
  | a :: xs, b :: l, h => by
    cases h with
    | cons _ t => exact pair_last t
theorem pair_split {α β : Type} {F : α → β → Prop} {s : β} : ∀ {l : List β} {xs : List α}, Paired F xs (l ++ [s]) → ∃ ys v, xs = ys ++ [v] ∧ Paired F ys l ∧ F v s
  | [], _, h => by
    cases h with
    | cons r t =>
      cases t
      exact ⟨[], _, rfl, .nil, r⟩
  | b :: l, _, h => by
    cases h with
    | cons r t =>
      obtain ⟨ys, v, rfl, h1, h2⟩ := pair_split t
      exact ⟨_ :: ys, v, rfl, .cons r h1, h2⟩
/-- what follow gives: the stops' list, the index -/
def FolAt (H H' : Hp) (r : Addr) (res : List (Nat × Nat) × Option Nat) : Prop := ∃ sl vs, H r = none ∧ H' r = some (.tup [.ref sl, optV res.2]) ∧ H sl = none ∧ H' sl = some (.lst vs) ∧ Paired (StopAt H') vs res.1
/-! ### cuts -/
theorem cut_from {xs : List V} {n : Nat} : cutV xs (some (n : Int)) none = xs.drop n := by
  unfold cutV
  rw [HT.sIx_nat, HT.sIx_none]
  by_cases c : n ≤ xs.length
  · rw [Nat.min_eq_left c, List.take_of_length_le (by rw [List.length_drop]; exact Nat.le_refl _)]
  · rw [Nat.min_eq_right (by omega), Nat.sub_self, List.take_zero, List.drop_eq_nil_iff.mpr (by omega)]
theorem cut_to {xs : List V} {n : Nat} : cutV xs none (some (n : Int)) = xs.take n := by
  unfold cutV
  rw [HT.sIx_none, HT.sIx_nat, List.drop_zero, Nat.sub_zero]
  by_cases c : n ≤ xs.length
  · rw [Nat.min_eq_left c]
  · rw [Nat.min_eq_right (by omega), List.take_of_length_le (Nat.le_refl _), List.take_of_length_le (by omega)]
/-! ### stops followed: plain mathematics -/
theorem fol_ne {p : Nat} : ∀ (l d : List (Nat × Nat)), (d ≠ [] ∨ l ≠ []) → (fol p d l).1 ≠ []
  | [], d, h => by
    rcases h with h | h
    · exact h
    · exact absurd rfl h
  | s :: r, d, _ => by
    unfold fol
    cases (d.findIdx? fun t => decide (plc p t = plc p s)) with
    | some b => simp
    | none => exact fol_ne r (d ++ [s]) (.inl (by simp))
theorem fol_len {p : Nat} : ∀ (l d : List (Nat × Nat)), (fol p d l).1.length ≤ d.length + l.length
  | [], d => by
    show d.length ≤ _
    omega
  | s :: r, d => by
    unfold fol
    cases (d.findIdx? fun t => decide (plc p t = plc p s)) with
    | some b =>
      show (d ++ [s]).length ≤ _
      rw [List.length_append, List.length_singleton, List.length_cons]
      omega
    | none =>
      have := fol_len (p := p) r (d ++ [s])
      rw [List.length_append, List.length_singleton] at this
      rw [List.length_cons]
      show (fol p (d ++ [s]) r).1.length ≤ _
      omega
theorem folR_ne {p h : Nat} {os : List Od} {st : Nat × Nat} : (folR p h os st).1 ≠ [] := by
  unfold folR
  refine fol_ne _ _ (.inr ?_)
  show way p os (h * p + 1) st ≠ []
  rw [show way p os (h * p + 1) st = rest p os (h * p + 1) (some st) from rfl, rest_succ]
  exact List.cons_ne_nil _ _
theorem folR_len {p h : Nat} {os : List Od} {st : Nat × Nat} : (folR p h os st).1.length ≤ h * p + 1 := by
  have h1 := fol_len (p := p) (way p os (h * p + 1) st) []
  have h2 := way_len p os (h * p + 1) st
  unfold folR
  simp only [List.length_nil, Nat.zero_add] at h1
  exact Nat.le_trans h1 h2
theorem small301 {p h : Nat} {os : List Od} (k : NetOk p h os) : h * p + 1 ≤ 301 := by
  have : h * p ≤ 10 * 30 := Nat.mul_le_mul k.h10 k.p30
  omega
theorem optV_isN {o : Option Nat} : decide (optV o = .non) = o.isNone := by cases o <;> rfl
theorem pair_drop {α β : Type} {F : α → β → Prop} {xs : List α} {l : List β} (h : Paired F xs l) : ∀ n, Paired F (xs.drop n) (l.drop n) := by
  induction h with
  | nil =>
    intro n
    rw [List.drop_nil, List.drop_nil]
    exact .nil
  | cons r t ih =>
    intro n
    cases n with
    | zero => exact .cons r t
    | succ n => exact ih n
theorem nodup_bound : ∀ (n : Nat) (l : List Nat), l.Nodup → (∀ x ∈ l, x < n) → l.length ≤ n
  | 0, [], _, _ => Nat.le_refl _
  | 0, x :: l, _, h => absurd (h x List.mem_cons_self) (Nat.not_lt_zero _)
  | n + 1, l, nd, h => by
    by_cases c : n ∈ l
    · have h1 : (l.erase n).length ≤ n := nodup_bound n (l.erase n) (nd.erase n) fun x hx => by
        have h2 := (List.Nodup.mem_erase_iff nd).mp hx
        have h3 := h x h2.2
        have h4 : x ≠ n := h2.1
        omega
      have h2 := List.length_erase_of_mem c
      omega
    · have h1 : l.length ≤ n := nodup_bound n l nd fun x hx => by
        have h3 := h x hx
        have h4 : x ≠ n := fun e => c (e ▸ hx)
        omega
      omega
/-- stops at different places are few -/
theorem places_bound {p h : Nat} {l : List (Nat × Nat)} (hp : 0 < p) (hh : ∀ s ∈ l, s.1 < h) (nd : (l.map (plc p)).Nodup) : l.length ≤ h * p := by
  have e : (l.map fun s => s.1 * p + s.2 % p).length = l.length := List.length_map _
  rw [← e]
  refine nodup_bound (h * p) _ ?_ ?_
  · have e2 : (l.map fun s => s.1 * p + s.2 % p) = (l.map (plc p)).map fun s => s.1 * p + s.2 := by
      rw [List.map_map]
      rfl
    rw [e2]
    have lt : ∀ s ∈ l.map (plc p), s.2 < p := fun s hs => by
      obtain ⟨t, _, rfl⟩ := List.mem_map.mp hs
      exact Nat.mod_lt _ hp
    generalize l.map (plc p) = ps at nd lt
    clear e e2 hh
    induction ps with
    | nil => exact List.nodup_nil
    | cons s r ih =>
      rw [List.nodup_cons] at nd
      rw [List.map_cons, List.nodup_cons]
      refine ⟨fun hm => ?_, ih nd.2 fun t ht => lt t (List.mem_cons_of_mem _ ht)⟩
      obtain ⟨t, ht, et⟩ := List.mem_map.mp hm
      have l1 := lt s List.mem_cons_self
      have l2 := lt t (List.mem_cons_of_mem _ ht)
      have q1 : t.1 = s.1 := by
        have a1 : (t.1 * p + t.2) / p = (s.1 * p + s.2) / p := by rw [et]
        rw [Nat.mul_comm t.1, Nat.mul_comm s.1, Nat.mul_add_div hp, Nat.mul_add_div hp, Nat.div_eq_of_lt l1, Nat.div_eq_of_lt l2] at a1
        omega
      have q2 : t.2 = s.2 := by
        rw [q1] at et
        omega
      exact nd.1 (by rw [show s = t from Prod.ext q1.symm q2.symm]; exact ht)
  · intro x hx
    obtain ⟨s, hs, rfl⟩ := List.mem_map.mp hx
    have h1 := hh s hs
    have h2 : s.2 % p < p := Nat.mod_lt _ hp
    calc s.1 * p + s.2 % p < s.1 * p + p := by omega
      _ = (s.1 + 1) * p := by rw [Nat.add_mul, Nat.one_mul]
      _ ≤ h * p := Nat.mul_le_mul_right _ h1
/-- how a way goes on behind its i-th stop -/
theorem way_next {p : Nat} {os : List Od} {n i : Nat} {st c : Nat × Nat} (hc : (way p os n st)[i]? = some c) (hi : i + 1 < n) : (way p os n st).drop (i + 1) = rest p os (n - (i + 1)) (hop p os c) := by
  have h := way_drop hc
  have e : n - i = (n - (i + 1)) + 1 := by omega
  rw [e, show way p os (n - (i + 1) + 1) c = rest p os (n - (i + 1) + 1) (some c) from rfl, rest_succ] at h
  have := congrArg (List.drop 1) h
  rw [List.drop_drop] at this
  exact this
/-- destination's answer -/
def destOf (res : List (Nat × Nat) × Option Nat) : Option (Nat × Nat) := match res.2 with
  | some _ => none
  | none => res.1.getLast?
def OptStop (H' : Hp) (v : V) : Option (Nat × Nat) → Prop
  | none => v = .non
  | some s => StopAt H' v s
/-! ### where a letter is: plain mathematics -/
/-- the i-th stop of a letter's way -/
def stp (p : Nat) (os : List Od) : Nat → Nat × Nat → Option (Nat × Nat)
  | 0, st => some st
  | n + 1, st => (stp p os n st).bind (hop p os)
theorem way_get {p : Nat} {os : List Od} {n : Nat} {st : Nat × Nat} : ∀ {i : Nat}, i < n → (way p os n st)[i]? = stp p os i st
  | 0, h => by
    obtain ⟨n, rfl⟩ : ∃ m, n = m + 1 := ⟨n - 1, by omega⟩
    rw [show way p os (n + 1) st = rest p os (n + 1) (some st) from rfl, rest_succ]
    rfl
  | i + 1, h => by
    have ih := way_get (p := p) (os := os) (n := n) (st := st) (i := i) (by omega)
    show _ = (stp p os i st).bind (hop p os)
    cases q : (way p os n st)[i]? with
    | none =>
      rw [← ih, q]
      rw [List.getElem?_eq_none_iff] at q
      exact List.getElem?_eq_none_iff.mpr (by omega)
    | some c =>
      rw [← ih, q]
      have e := way_next q h
      have e2 := congrArg (fun l => l[0]?) e
      simp only [List.getElem?_drop, Nat.add_zero] at e2
      rw [e2]
      obtain ⟨k, hk⟩ : ∃ k, n - (i + 1) = k + 1 := ⟨n - (i + 1) - 1, by omega⟩
      rw [hk]
      show (rest p os (k + 1) (hop p os c))[0]? = hop p os c
      cases hop p os c with
      | none => rfl
      | some s =>
        rw [rest_succ]
        rfl
theorem stp_add {p : Nat} {os : List Od} {i : Nat} {st : Nat × Nat} : ∀ {j : Nat}, stp p os (i + j) st = (stp p os i st).bind (stp p os j)
  | 0 => by
    show stp p os i st = _
    cases stp p os i st <;> rfl
  | j + 1 => by
    show (stp p os (i + j) st).bind (hop p os) = _
    rw [stp_add]
    cases stp p os i st <;> rfl
theorem hop_more {p h : Nat} {os : List Od} {c s : Nat × Nat} (k : NetOk p h os) (e : hop p os c = some s) : c.2 < s.2 := by
  unfold hop at e
  cases q : idx p os c.1 (c.2 : Int) with
  | none =>
    rw [q] at e
    cases e
  | some j =>
    simp only [q] at e
    have hj := idx_lt q
    rw [List.getElem?_eq_getElem hj] at e
    rw [← Option.some.inj e]
    have := (k.ok _ (List.getElem_mem hj)).e1
    show c.2 < c.2 + _
    omega
theorem stp_more {p h : Nat} {os : List Od} {i : Nat} {st a : Nat × Nat} (ok : NetOk p h os) (ha : stp p os i st = some a) : ∀ {k : Nat}, ∀ {b}, stp p os (i + (k + 1)) st = some b → a.2 < b.2
  | 0, b, hb => by
    have e : (stp p os i st).bind (hop p os) = some b := hb
    rw [ha] at e
    exact hop_more ok e
  | k + 1, b, hb => by
    have e : (stp p os (i + (k + 1)) st).bind (hop p os) = some b := hb
    cases q : stp p os (i + (k + 1)) st with
    | none =>
      rw [q] at e
      cases e
    | some c =>
      rw [q] at e
      have h1 := stp_more ok ha (k := k) q
      have h2 := hop_more ok e
      omega
/-- the letter's last stop up to the day x: it is c, the j-th -/
def LastAt (p : Nat) (os : List Od) (st : Nat × Nat) (x : Nat) (c : Nat × Nat) (j : Nat) : Prop :=
  stp p os j st = some c ∧ c.2 ≤ x ∧ ∀ s, hop p os c = some s → x < s.2
theorem LastAt.uniq {p h : Nat} {os : List Od} {st c c' : Nat × Nat} {x j j' : Nat} (ok : NetOk p h os) (a : LastAt p os st x c j) (b : LastAt p os st x c' j') : c = c' ∧ j = j' := by
  obtain ⟨a1, a2, a3⟩ := a
  obtain ⟨b1, b2, b3⟩ := b
  have key : ∀ {c c' : Nat × Nat} {j j' : Nat}, stp p os j st = some c → (∀ s, hop p os c = some s → x < s.2) → stp p os j' st = some c' → c'.2 ≤ x → j < j' → False := by
    intro c c' j j' h1 h2 h3 h4 lt
    obtain ⟨k, rfl⟩ : ∃ k, j' = (j + 1) + k := ⟨j' - (j + 1), by omega⟩
    have e0 : stp p os (j + 1) st = hop p os c := by
      show (stp p os j st).bind (hop p os) = _
      rw [h1]
      rfl
    cases q : hop p os c with
    | none =>
      rw [stp_add, e0, q] at h3
      cases h3
    | some s =>
      have h5 := h2 s q
      cases k with
      | zero =>
        rw [Nat.add_zero, e0, q] at h3
        rw [← Option.some.inj h3] at h4
        omega
      | succ k =>
        have h6 := stp_more ok (e0.trans q) h3
        omega
  by_cases e : j = j'
  · subst e
    exact ⟨Option.some.inj (a1.symm.trans b1), rfl⟩
  · rcases Nat.lt_or_gt_of_ne e with lt | lt
    · exact (key a1 a3 b1 b2 lt).elim
    · exact (key b1 b3 a1 a2 lt).elim
/-- later by D days, a multiple of the period -/
def shf (D : Nat) (s : Nat × Nat) : Nat × Nat := (s.1, s.2 + D)
theorem hop_shf {p : Nat} {os : List Od} {k : Nat} (s : Nat × Nat) : hop p os (shf (p * k) s) = (hop p os s).map (shf (p * k)) := by
  unfold hop shf
  show (match idx p os s.1 ((s.2 + p * k : Nat) : Int) with | none => none | some j => (os[j]?).map fun o : Od => (o.t, s.2 + p * k + o.e)) = _
  rw [idx_later]
  cases idx p os s.1 (s.2 : Int) with
  | none => rfl
  | some j =>
    show (os[j]?).map _ = ((os[j]?).map _).map _
    rw [Option.map_map]
    congr 1
    funext o
    show (o.t, s.2 + p * k + o.e) = (o.t, s.2 + o.e + p * k)
    rw [show s.2 + p * k + o.e = s.2 + o.e + p * k by omega]
theorem stp_shf {p : Nat} {os : List Od} {k : Nat} (s : Nat × Nat) : ∀ j, stp p os j (shf (p * k) s) = (stp p os j s).map (shf (p * k))
  | 0 => rfl
  | j + 1 => by
    show (stp p os j (shf (p * k) s)).bind (hop p os) = ((stp p os j s).bind (hop p os)).map _
    rw [stp_shf s j]
    cases stp p os j s with
    | none => rfl
    | some c => exact hop_shf c
/-- round after round -/
theorem stp_round {p : Nat} {os : List Od} {b N D k0 : Nat} {st t : Nat × Nat} (hD : D = p * k0) (h1 : stp p os b st = some t) (h2 : stp p os (b + N) st = some (shf D t)) : ∀ (r i : Nat), stp p os (b + i + N * r) st = (stp p os (b + i) st).map (shf (D * r))
  | 0, i => by
    rw [Nat.mul_zero, Nat.mul_zero, Nat.add_zero]
    cases stp p os (b + i) st <;> rfl
  | r + 1, i => by
    have one : ∀ j, stp p os (b + N + j) st = (stp p os (b + j) st).map (shf D) := by
      intro j
      rw [stp_add, h2]
      show stp p os j (shf D t) = _
      rw [stp_add (i := b), h1, hD, stp_shf]
      rfl
    have e : b + i + N * (r + 1) = b + N + (i + N * r) := by
      rw [Nat.mul_add, Nat.mul_one]
      omega
    rw [e, one, show b + (i + N * r) = b + i + N * r by omega, stp_round hD h1 h2 r i, Option.map_map]
    congr 1
    funext s
    show (s.1, s.2 + D * r + D) = (s.1, s.2 + D * (r + 1))
    rw [Nat.mul_add, Nat.mul_one, Nat.add_assoc]
/-- what fol says -/
theorem fol_spec {p : Nat} : ∀ (r d : List (Nat × Nat)), (d.map (plc p)).Nodup →
    (fol p d r = (d ++ r, none) ∧ ((d ++ r).map (plc p)).Nodup) ∨ ∃ m s b t r', d ++ r = m ++ s :: r' ∧ fol p d r = (m ++ [s], some b) ∧ m[b]? = some t ∧ plc p t = plc p s ∧ (m.map (plc p)).Nodup
  | [], d, nd => .inl ⟨by rw [List.append_nil]; rfl, by rw [List.append_nil]; exact nd⟩
  | s :: r, d, nd => by
    unfold fol
    cases q : d.findIdx? (fun t => decide (plc p t = plc p s)) with
    | some b =>
      obtain ⟨hb, hb2, _⟩ := List.findIdx?_eq_some_iff_getElem.mp q
      exact .inr ⟨d, s, b, d[b], r, rfl, rfl, List.getElem?_eq_getElem hb, of_decide_eq_true hb2, nd⟩
    | none =>
      have nd2 : ((d ++ [s]).map (plc p)).Nodup := by
        rw [List.map_append, List.nodup_append]
        refine ⟨nd, by simp, fun x hx y hy => ?_⟩
        rw [List.map_cons, List.map_nil, List.mem_singleton] at hy
        rw [hy]
        intro e
        obtain ⟨t, ht, et⟩ := List.mem_map.mp hx
        have := List.findIdx?_eq_none_iff.mp q t ht
        exact Bool.false_ne_true (this.symm.trans (decide_eq_true (et.trans e)))
      have ih := fol_spec r (d ++ [s]) nd2
      rw [List.append_assoc] at ih
      exact ih
/-- a letter that is delivered, or chases: by its stops -/
theorem folR_cases {p h : Nat} {os : List Od} {st : Nat × Nat} (ok : NetOk p h os) (hh : st.1 < h) :
    (∃ l, folR p h os st = (l, none) ∧ l ≠ [] ∧ (∀ i, l[i]? = stp p os i st) ∧ (l.map (plc p)).Nodup) ∨
    (∃ m s b t k, folR p h os st = (m ++ [s], some b) ∧ (∀ i, i ≤ m.length → (m ++ [s])[i]? = stp p os i st) ∧ m[b]? = some t ∧ s = shf (p * k) t ∧ 0 < p * k ∧ (m.map (plc p)).Nodup) := by
  have hp : 0 < p := ok.p1
  have hlen := way_len p os (h * p + 1) st
  have hget : ∀ {i}, i < h * p + 1 → (way p os (h * p + 1) st)[i]? = stp p os i st := fun hi => way_get hi
  have hho := way_house (n := h * p + 1) ok hh
  have hne : way p os (h * p + 1) st ≠ [] := by
    rw [show way p os (h * p + 1) st = rest p os (h * p + 1) (some st) from rfl, rest_succ]
    exact List.cons_ne_nil _ _
  unfold folR
  generalize way p os (h * p + 1) st = L at hlen hget hho hne
  rcases fol_spec (p := p) L [] List.nodup_nil with ⟨e, nd⟩ | ⟨m, s, b, t, r', e1, e2, e3, e4, nd⟩
  · rw [List.nil_append] at e nd
    refine .inl ⟨L, e, hne, fun i => ?_, nd⟩
    have hb := places_bound hp hho nd
    by_cases c : i < h * p + 1
    · exact hget c
    · have e1 : stp p os L.length st = none := by
        rw [← hget (by omega)]
        exact List.getElem?_eq_none_iff.mpr (Nat.le_refl _)
      have e2 : i = L.length + (i - L.length) := by omega
      rw [e2, stp_add, e1]
      exact List.getElem?_eq_none_iff.mpr (by omega)
  · rw [List.nil_append] at e1
    have hml : m.length < L.length := by
      rw [e1, List.length_append, List.length_cons]
      omega
    have hg : ∀ i, i ≤ m.length → (m ++ [s])[i]? = stp p os i st := fun i hi => by
      rw [← hget (by omega), e1]
      by_cases c : i < m.length
      · rw [List.getElem?_append_left c, List.getElem?_append_left c]
      · obtain rfl : i = m.length := by omega
        rw [List.getElem?_append_right (Nat.le_refl _), List.getElem?_append_right (Nat.le_refl _), Nat.sub_self]
        rfl
    have hbl : b < m.length := (List.getElem?_eq_some_iff.mp e3).1
    have g1 : stp p os b st = some t := by
      rw [← hg b (by omega), List.getElem?_append_left hbl]
      exact e3
    have g2 : stp p os (b + (m.length - b - 1 + 1)) st = some s := by
      rw [show b + (m.length - b - 1 + 1) = m.length by omega, ← hg _ (Nat.le_refl _), List.getElem?_append_right (Nat.le_refl _), Nat.sub_self]
      rfl
    have lt := stp_more (b := s) ok g1 g2
    have h1 : t.1 = s.1 := (Prod.mk.inj e4).1
    have h2 : t.2 % p = s.2 % p := (Prod.mk.inj e4).2
    have hk : s.2 = t.2 + p * (s.2 / p - t.2 / p) := by
      have a1 := Nat.div_add_mod s.2 p
      have a2 := Nat.div_add_mod t.2 p
      have a3 : t.2 / p ≤ s.2 / p := Nat.div_le_div_right (Nat.le_of_lt lt)
      rw [Nat.mul_sub]
      have a4 : p * (t.2 / p) ≤ p * (s.2 / p) := Nat.mul_le_mul_left _ a3
      omega
    refine .inr ⟨m, s, b, t, s.2 / p - t.2 / p, e2, hg, e3, ?_, by omega, nd⟩
    exact Prod.ext h1.symm hk
/-- of an increasing list, those up to a day are its beginning -/
theorem upto {sk x : Nat} : ∀ {l : List (Nat × Nat)}, l.Pairwise (fun a b => a.2 < b.2) → l.filter (fun s => decide (s.2 + sk ≤ x)) = l.take (l.filter fun s => decide (s.2 + sk ≤ x)).length ∧ ∀ s ∈ l.drop (l.filter fun s => decide (s.2 + sk ≤ x)).length, x < s.2 + sk
  | [], _ => ⟨rfl, fun s h => by cases h⟩
  | s :: r, hp => by
    rw [List.pairwise_cons] at hp
    obtain ⟨h1, h2⟩ := upto (sk := sk) (x := x) hp.2
    by_cases c : s.2 + sk ≤ x
    · have e : (s :: r).filter (fun s => decide (s.2 + sk ≤ x)) = s :: r.filter (fun s => decide (s.2 + sk ≤ x)) := List.filter_cons_of_pos (p := fun s : Nat × Nat => decide (s.2 + sk ≤ x)) (decide_eq_true c)
      rw [e, List.length_cons, List.take_succ_cons, List.drop_succ_cons]
      refine ⟨?_, h2⟩
      rw [← h1]
    · have hn : ∀ t ∈ s :: r, x < t.2 + sk := fun t ht => by
        rcases List.mem_cons.mp ht with e | e
        · rw [e]; omega
        · have := hp.1 t e
          omega
      have e0 : (s :: r).filter (fun s => decide (s.2 + sk ≤ x)) = [] := List.filter_eq_nil_iff.mpr fun t ht z => by
        have := hn t ht
        have := of_decide_eq_true z
        omega
      rw [e0]
      exact ⟨rfl, fun t ht => hn t ht⟩
theorem stp_pair {p h : Nat} {os : List Od} {st : Nat × Nat} {l : List (Nat × Nat)} (ok : NetOk p h os) (hl : ∀ i, i < l.length → l[i]? = stp p os i st) : l.Pairwise fun a b => a.2 < b.2 := by
  rw [List.pairwise_iff_getElem]
  intro i j hi hj lt
  have e1 := hl i hi
  have e2 := hl j hj
  rw [List.getElem?_eq_getElem hi] at e1
  rw [List.getElem?_eq_getElem hj] at e2
  obtain ⟨k, rfl⟩ : ∃ k, j = i + (k + 1) := ⟨j - i - 1, by omega⟩
  exact stp_more (b := l[i + (k + 1)]) ok e1.symm e2.symm
def cnt (l : List (Nat × Nat)) (x : Nat) : Nat := (l.filter fun s => decide (s.2 ≤ x)).length
/-- days and hops that a chasing letter has behind it in whole rounds, up to the day x -/
def skips (res : List (Nat × Nat) × Option Nat) (x : Nat) : Nat × Nat := match res.2 with
  | none => (0, 0)
  | some b => match res.1[b]?, res.1.getLast? with
    | some t, some s => if t.2 ≤ x then ((x - t.2) / (s.2 - t.2) * (s.2 - t.2), (x - t.2) / (s.2 - t.2) * (res.1.length - 1 - b)) else (0, 0)
    | _, _ => (0, 0)
def cntS (l : List (Nat × Nat)) (sk x : Nat) : Nat := (l.filter fun s => decide (s.2 + sk ≤ x)).length
theorem cntS_spec {p h : Nat} {os : List Od} {st : Nat × Nat} {l : List (Nat × Nat)} {sk x : Nat} (ok : NetOk p h os) (hl : ∀ i, i < l.length → l[i]? = stp p os i st) :
    cntS l sk x ≤ l.length ∧ (∀ i s, i < cntS l sk x → l[i]? = some s → s.2 + sk ≤ x) ∧ ∀ i s, cntS l sk x ≤ i → l[i]? = some s → x < s.2 + sk := by
  obtain ⟨h1, h2⟩ := upto (sk := sk) (x := x) (stp_pair ok hl)
  have hc : cntS l sk x ≤ l.length := List.length_filter_le _ _
  refine ⟨hc, fun i s hi e => ?_, fun i s hi e => ?_⟩
  · have m : s ∈ l.filter fun s => decide (s.2 + sk ≤ x) := by
      rw [h1]
      refine List.mem_of_getElem? (i := i) ?_
      show (l.take (cntS l sk x))[i]? = some s
      rw [List.getElem?_take_of_lt hi]
      exact e
    exact of_decide_eq_true (List.mem_filter.mp m).2
  · refine h2 s (List.mem_of_getElem? (i := i - cntS l sk x) ?_)
    show (l.drop (cntS l sk x))[i - cntS l sk x]? = some s
    rw [List.getElem?_drop, show cntS l sk x + (i - cntS l sk x) = i by omega]
    exact e
/-- the last stop, as it is computed from what follow says -/
theorem last_of {p h : Nat} {os : List Od} {st : Nat × Nat} {x : Nat} (ok : NetOk p h os) (hh : st.1 < h) (hx : st.2 ≤ x) :
    ∃ c s, cntS (folR p h os st).1 (skips (folR p h os st) x).1 x = c + 1 ∧ (folR p h os st).1[c]? = some s ∧ LastAt p os st x (shf (skips (folR p h os st) x).1 s) (c + (skips (folR p h os st) x).2) ∧
      ((folR p h os st).2.isSome = true → c + 1 < (folR p h os st).1.length) := by
  rcases folR_cases ok hh with ⟨l, e, hne, hl, _⟩ | ⟨m, s, b, t, k, e, hl, hb, hs, hk, _⟩
  · rw [e]
    show ∃ c s, cntS l 0 x = c + 1 ∧ l[c]? = some s ∧ LastAt p os st x (shf 0 s) (c + 0) ∧ (Option.isSome (none : Option Nat) = true → c + 1 < l.length)
    obtain ⟨c1, c2, c3⟩ := cntS_spec (sk := 0) (x := x) ok fun i _ => hl i
    have h0 : l[0]? = some st := hl 0
    have pos : 0 < cntS l 0 x := by
      refine Nat.pos_of_ne_zero fun z => ?_
      have := c3 0 st (by omega) h0
      omega
    obtain ⟨c, hc⟩ : ∃ c, cntS l 0 x = c + 1 := ⟨cntS l 0 x - 1, by omega⟩
    have hcl : c < l.length := by omega
    have hc' := List.getElem?_eq_getElem hcl
    refine ⟨c, l[c], hc, hc', ⟨?_, c2 c _ (by omega) hc', fun s hs => ?_⟩, fun z => by cases z⟩
    · rw [Nat.add_zero, ← hl c]
      exact hc'
    · have e1 : l[c + 1]? = some s := by
        rw [hl (c + 1)]
        show (stp p os c st).bind (hop p os) = _
        rw [← hl c, hc']
        exact hs
      have := c3 (c + 1) s (by omega) e1
      omega
  · rw [e]
    have hbl : b < m.length := (List.getElem?_eq_some_iff.mp hb).1
    have hl' : ∀ i, i < (m ++ [s]).length → (m ++ [s])[i]? = stp p os i st := fun i hi => hl i (by rw [List.length_append, List.length_singleton] at hi; omega)
    have g1 : (m ++ [s])[b]? = some t := by rw [List.getElem?_append_left hbl]; exact hb
    have g2 : (m ++ [s])[m.length]? = some s := by
      rw [List.getElem?_append_right (Nat.le_refl _), Nat.sub_self]
      rfl
    have w1 : stp p os b st = some t := by rw [← hl b (by omega)]; exact g1
    have w2 : stp p os (b + (m.length - b)) st = some (shf (p * k) t) := by
      rw [show b + (m.length - b) = m.length by omega, ← hl _ (Nat.le_refl _), ← hs]
      exact g2
    have hD : s.2 - t.2 = p * k := by
      rw [hs]
      show t.2 + p * k - t.2 = _
      omega
    have esk : skips (m ++ [s], some b) x = if t.2 ≤ x then ((x - t.2) / (p * k) * (p * k), (x - t.2) / (p * k) * (m.length - b)) else (0, 0) := by
      unfold skips
      simp only [g1, List.getLast?_concat, hD]
      rw [List.length_append, List.length_singleton, Nat.add_sub_cancel]
    rw [esk]
    by_cases c : t.2 ≤ x
    · rw [if_pos c]
      generalize hr : (x - t.2) / (p * k) = r
      have q1 := Nat.div_add_mod (x - t.2) (p * k)
      have q2 := Nat.mod_lt (x - t.2) hk
      rw [hr] at q1
      have q3 : p * k * r = r * (p * k) := Nat.mul_comm _ _
      show ∃ c z, cntS (m ++ [s]) (r * (p * k)) x = c + 1 ∧ (m ++ [s])[c]? = some z ∧ LastAt p os st x (shf (r * (p * k)) z) (c + r * (m.length - b)) ∧ (Option.isSome (some b) = true → c + 1 < (m ++ [s]).length)
      obtain ⟨c1, c2, c3⟩ := cntS_spec (sk := r * (p * k)) (x := x) ok hl'
      have lo : b < cntS (m ++ [s]) (r * (p * k)) x := by
        refine Nat.lt_of_not_le fun z => ?_
        have := c3 b t z g1
        omega
      have hi : cntS (m ++ [s]) (r * (p * k)) x ≤ m.length := by
        refine Nat.le_of_not_lt fun z => ?_
        have := c2 m.length s z g2
        have e0 : s.2 = t.2 + p * k := by rw [hs]; rfl
        omega
      obtain ⟨c, hc⟩ : ∃ c, cntS (m ++ [s]) (r * (p * k)) x = c + 1 := ⟨cntS (m ++ [s]) (r * (p * k)) x - 1, by omega⟩
      have hcl : c < (m ++ [s]).length := by rw [List.length_append, List.length_singleton]; omega
      have hc' := List.getElem?_eq_getElem hcl
      have round := stp_round (D := p * k) (k0 := k) rfl w1 w2 r
      have sc : stp p os (c + r * (m.length - b)) st = some (shf (r * (p * k)) ((m ++ [s])[c])) := by
        have e1 := round (c - b)
        rw [show b + (c - b) = c by omega, Nat.mul_comm (m.length - b) r, ← hl c (by omega), hc', Nat.mul_comm (p * k) r] at e1
        exact e1
      refine ⟨c, (m ++ [s])[c], hc, hc', ⟨sc, c2 c _ (by omega) hc', fun z hz => ?_⟩, fun _ => by rw [List.length_append, List.length_singleton]; omega⟩
      have hcl2 : c + 1 < (m ++ [s]).length := by rw [List.length_append, List.length_singleton]; omega
      have hc2' := List.getElem?_eq_getElem hcl2
      have e2 := round (c + 1 - b)
      rw [show b + (c + 1 - b) = c + 1 by omega, Nat.mul_comm (m.length - b) r, ← hl (c + 1) (by omega), hc2', Nat.mul_comm (p * k) r] at e2
      have e3 : stp p os (c + 1 + r * (m.length - b)) st = some z := by
        rw [show c + 1 + r * (m.length - b) = (c + r * (m.length - b)) + 1 by omega]
        show (stp p os (c + r * (m.length - b)) st).bind (hop p os) = _
        rw [sc]
        exact hz
      rw [e3] at e2
      rw [Option.some.inj e2]
      exact c3 (c + 1) _ (by omega) hc2'
    · rw [if_neg c]
      show ∃ c z, cntS (m ++ [s]) 0 x = c + 1 ∧ (m ++ [s])[c]? = some z ∧ LastAt p os st x (shf 0 z) (c + 0) ∧ (Option.isSome (some b) = true → c + 1 < (m ++ [s]).length)
      obtain ⟨c1, c2, c3⟩ := cntS_spec (sk := 0) (x := x) ok hl'
      have h0 : (m ++ [s])[0]? = some st := hl 0 (Nat.zero_le _)
      have pos : 0 < cntS (m ++ [s]) 0 x := by
        refine Nat.pos_of_ne_zero fun z => ?_
        have := c3 0 st (by omega) h0
        omega
      have hi : cntS (m ++ [s]) 0 x ≤ b := by
        refine Nat.le_of_not_lt fun z => ?_
        have := c2 b t z g1
        omega
      obtain ⟨c, hc⟩ : ∃ c, cntS (m ++ [s]) 0 x = c + 1 := ⟨cntS (m ++ [s]) 0 x - 1, by omega⟩
      have hcl : c < (m ++ [s]).length := by rw [List.length_append, List.length_singleton]; omega
      have hc' := List.getElem?_eq_getElem hcl
      have sc : stp p os c st = some ((m ++ [s])[c]) := by
        rw [← hl c (by omega)]
        exact hc'
      refine ⟨c, (m ++ [s])[c], hc, hc', ⟨sc, c2 c _ (by omega) hc', fun z hz => ?_⟩, fun _ => by rw [List.length_append, List.length_singleton]; omega⟩
      have e3 : (m ++ [s])[c + 1]? = some z := by
        rw [hl (c + 1) (by omega)]
        show (stp p os c st).bind (hop p os) = _
        rw [sc]
        exact hz
      have := c3 (c + 1) z (by omega) e3
      omega
/-! ### stops as data -/
theorem fol_first {p : Nat} {s : Nat × Nat} {r : List (Nat × Nat)} : fol p [] (s :: r) = fol p [s] r := by simp [fol]
def plD (s : Nat × Nat) : PyData := .tuple [.int s.1, .int s.2]
theorem plD_shaped (s : Nat × Nat) : PySem.SeqAt.shaped (plD s) = true := by
  show ((plD s).canLay0 && decide ((plD s).depth ≤ 64)) = true
  rw [Bool.and_eq_true]
  refine ⟨by simp [plD, PyData.canLay0, PyData.canLayAll0], decide_eq_true ?_⟩
  have e : (plD s).depth = 1 := by simp [plD, PyData.depth, PyData.depthAll]
  omega
theorem plDs_lay : ∀ l : List (Nat × Nat), PyData.canLayAll0 (l.map plD) = true
  | [] => by simp [PyData.canLayAll0]
  | s :: l => by
    have h : (plD s).canLay0 = true := by simp [plD, PyData.canLay0, PyData.canLayAll0]
    simp [PyData.canLayAll0, h, plDs_lay l]
theorem plDs_depth : ∀ l : List (Nat × Nat), PyData.depthAll (l.map plD) ≤ 1
  | [] => by simp [PyData.depthAll]
  | s :: l => by
    have h1 := plDs_depth l
    have h2 : (plD s).depth = 1 := by simp [plD, PyData.depth, PyData.depthAll]
    simp only [List.map_cons, PyData.depthAll]
    omega
theorem plDs_shaped (l : List (Nat × Nat)) : PySem.SeqAt.shaped (.list (l.map plD)) = true := by
  have h1 := plDs_depth l
  show (PyData.canLay0 (.list (l.map plD)) && decide (PyData.depth (.list (l.map plD)) ≤ 64)) = true
  rw [Bool.and_eq_true]
  refine ⟨by simp only [PyData.canLay0]; exact plDs_lay l, decide_eq_true ?_⟩
  simp only [PyData.depth]
  omega
theorem plD_eqv (s t : Nat × Nat) : PyData.eqv (plD s) (plD t) = decide (s = t) := by
  obtain ⟨a, b⟩ := s
  obtain ⟨c, d⟩ := t
  have e : PyData.eqv (plD (a, b)) (plD (c, d)) = (((a : Int) == (c : Int)) && (((b : Int) == (d : Int)) && true)) := by simp only [plD, PyData.eqv, PyData.eqvAll]
  rw [e]
  by_cases h : ((a, b) : Nat × Nat) = (c, d)
  · cases h
    simp
  · rw [decide_eq_false h]
    by_cases h1 : a = c
    · have h2 : ¬ (b : Int) = (d : Int) := fun z => h (by rw [h1, show b = d by omega])
      have e2 : ((b : Int) == (d : Int)) = false := beq_eq_false_iff_ne.mpr h2
      rw [e2, Bool.false_and, Bool.and_false]
    · have e2 : ((a : Int) == (c : Int)) = false := beq_eq_false_iff_ne.mpr (by omega)
      rw [e2, Bool.false_and]
theorem stop_dp {K : PySem.W.Frag} {H : Hp} {v : V} {s : Nat × Nat} (h : StopAt H v s) : Dp K H v (plD s) := by
  obtain ⟨u, rfl, hu⟩ := h
  exact .tup (SqT.of hu) (.cons (.int _) (.cons (.int _) .nil))
theorem stops_dp {K : PySem.W.Frag} {H : Hp} {vs : List V} {l : List (Nat × Nat)} (h : Paired (StopAt H) vs l) : DpAll K H vs (l.map plD) := by
  induction h with
  | nil => exact .nil
  | cons r _ ih => exact .cons (stop_dp r) ih
/-! ### days of a house: plain -/
/-- the three lists of day_sets: by the days below n -/
def arr (p h : Nat) (os : List Od) (hs n : Nat) : List Nat := (List.range n).filter fun d => (folR p h os (hs, d)).2.isNone
def chs (p h : Nat) (os : List Od) (hs n : Nat) : List Nat := (List.range n).filter fun d => (folR p h os (hs, d)).2.isSome
def ret (p h : Nat) (os : List Od) (hs n : Nat) : List Nat := (List.range n).filter fun d => ((folR p h os (hs, d)).1.drop 1).any fun s => decide (s.1 = hs)
theorem filter_nints {n : Nat} {f : Nat → Bool} (h : f n = true) : nints ((List.range (n + 1)).filter f) = nints ((List.range n).filter f) ++ [.int (n : Nat)] := by
  rw [filter_range_succ', if_pos h]
  unfold nints
  rw [List.map_append]
  rfl
theorem filter_nints' {n : Nat} {f : Nat → Bool} (h : f n = false) : nints ((List.range (n + 1)).filter f) = nints ((List.range n).filter f) := by
  rw [filter_range_succ', if_neg (by rw [h]; exact Bool.false_ne_true), List.append_nil]
theorem nints_small {n : Nat} {f : Nat → Bool} (h : n ≤ 30) : (nints ((List.range n).filter f)).length < sizeLine := by
  unfold nints
  rw [List.length_map]
  exact small1000 (Nat.le_trans (List.length_filter_le _ _) (by rw [List.length_range]; omega))
/-! ### equal data (nested lists and tuples of None, bools, ints, texts) -/
def Flat1 (v : V) : Prop := v = .non ∨ (∃ b, v = .bl b) ∨ (∃ i, v = .int i) ∨ ∃ s, v = .str s
def Eqv : Nat → Hp → V → V → Prop
  | 0, _, a, b => a = b ∧ Flat1 a
  | n + 1, H, a, b => (a = b ∧ Flat1 a) ∨ (∃ p q xs ys, a = .ref p ∧ b = .ref q ∧ H p = some (.tup xs) ∧ H q = some (.tup ys) ∧ xs.length ≤ 1000 ∧ Paired (Eqv n H) xs ys) ∨
      ∃ p q xs ys, a = .ref p ∧ b = .ref q ∧ H p = some (.lst xs) ∧ H q = some (.lst ys) ∧ xs.length ≤ 1000 ∧ Paired (Eqv n H) xs ys
theorem Eqv.flat {n : Nat} {H : Hp} {a b : V} (e : a = b) (f : Flat1 a) : Eqv n H a b := by
  cases n with
  | zero => exact ⟨e, f⟩
  | succ n => exact .inl ⟨e, f⟩
theorem Eqv.int {n : Nat} {H : Hp} {i : Int} : Eqv n H (.int i) (.int i) := Eqv.flat rfl (.inr (.inr (.inl ⟨i, rfl⟩)))
theorem Eqv.non {n : Nat} {H : Hp} : Eqv n H .non .non := Eqv.flat rfl (.inl rfl)
theorem Eqv.same : ∀ {n : Nat} {H H' : Hp} {a b : V}, Same H H' → Eqv n H a b → Eqv n H' a b
  | 0, _, _, _, _, _, h => h
  | n + 1, H, H', a, b, s, h => by
    rcases h with h | ⟨p, q, xs, ys, e1, e2, h1, h2, h3, h4⟩ | ⟨p, q, xs, ys, e1, e2, h1, h2, h3, h4⟩
    · exact .inl h
    · exact .inr (.inl ⟨p, q, xs, ys, e1, e2, s _ _ h1, s _ _ h2, h3, Paired.mapP h4 fun _ _ z => Eqv.same s z⟩)
    · exact .inr (.inr ⟨p, q, xs, ys, e1, e2, s _ _ h1, s _ _ h2, h3, Paired.mapP h4 fun _ _ z => Eqv.same s z⟩)
abbrev s_l_equal : Stmt := top 26
abbrev N_l_equal : List Str := ["_law_actual", "_law_expected", "_law_k"]
abbrev P_l_equal : List Str := ["_law_actual", "_law_expected"]
theorem sc_l_equal : FnScope N_l_equal P_l_equal (defScope s_l_equal) := ⟨rfl, rfl, rfl, by decide +kernel, rfl, by decide +kernel, by decide +kernel⟩
def spEqual (n : Nat) : Sp := fun vs H Q _ => ∃ (a b : V), vs = [a, b] ∧ Eqv n H a b ∧ ∀ H', Same H H' → Q (.bl true) H'
section
variable {P : Program} {w : World} {K : PySem.W.Frag} {mg : Str → Option Value} {base : Heap}
theorem bl_ne {x y : Bool} (e : x = y) : (!decide (V.bl x = V.bl y)) = false := by
  rw [decide_eq_true (by rw [e])]
  rfl
theorem ok_equal {f : Addr} {fd : FuncData} (F : Fun K "_law_equal" "_law_equal" s_l_equal f fd) (B : Blt mg) (gE : mg "_law_equal" = some (.ref f)) (bE : Binds K fd P_l_equal []) : ∀ n, FnOk P w K mg base CX0 (n + 1) f fd P_l_equal (spEqual n) := by
  intro n
  induction n with
  | zero =>
    refine F.ok sc_l_equal (fun vs H Q E h => ?_) (fun cdv A outer s H vs Q E hr h => ?_)
    · obtain ⟨a, b, rfl, _⟩ := h
      rfl
    · obtain ⟨a, b, rfl, ⟨rfl, hf⟩, q⟩ := h
      refine ⟨_, pss_cons (ps_if (pt_cmpR op_isN (pv 1) pe_non (nomark _)) (pss_one (ps_ret (pe_cmpR op_isN (pv 0) pe_non (nomark _)))) pss_nil)
        (pss_cons (ps_if (pt_val (pe_callB call_isi (by rfl) B.isi PyProof.Rows.boot_isinstance (pa_cons (pv 1) (pa_cons (pe_bltn (v := .ty "bool") (by rfl) B.bool (by decide +kernel) rfl) pa_nil))))
          (pss_one (ps_ret (pe_and (pe_callB call_isi (by rfl) B.isi PyProof.Rows.boot_isinstance (pa_cons (pv 0) (pa_cons (pe_bltn (v := .ty "bool") (by rfl) B.bool (by decide +kernel) rfl) pa_nil))) (pe_one (pe_cmpR op_eq (pv 0) (pv 1) (nomark _)))))) pss_nil)
        (pss_cons (ps_if (pt_val (pe_callB call_isi (by rfl) B.isi PyProof.Rows.boot_isinstance (pa_cons (pv 1) (pa_cons (pe_bltn (v := .ty "int") (by rfl) B.int (by decide +kernel) rfl) pa_nil))))
          (pss_one (ps_ret (pe_and (pe_callB call_isi (by rfl) B.isi PyProof.Rows.boot_isinstance (pa_cons (pv 0) (pa_cons (pe_bltn (v := .ty "int") (by rfl) B.int (by decide +kernel) rfl) pa_nil)))
            (pe_and (pe_not (pe_callB call_isi (by rfl) B.isi PyProof.Rows.boot_isinstance (pa_cons (pv 0) (pa_cons (pe_bltn (v := .ty "bool") (by rfl) B.bool (by decide +kernel) rfl) pa_nil)))) (pe_one (pe_cmpR op_eq (pv 0) (pv 1) (nomark _))))))) pss_nil)
        (pss_cons (ps_if (pt_val (pe_callB call_isi (by rfl) B.isi PyProof.Rows.boot_isinstance (pa_cons (pv 1) (pa_cons (pe_bltn (v := .ty "str") (by rfl) B.str (by decide +kernel) rfl) pa_nil))))
          (pss_one (ps_ret (pe_and (pe_callB call_isi (by rfl) B.isi PyProof.Rows.boot_isinstance (pa_cons (pv 0) (pa_cons (pe_bltn (v := .ty "str") (by rfl) B.str (by decide +kernel) rfl) pa_nil))) (pe_one (pe_cmpR op_eq (pv 0) (pv 1) (nomark _)))))) pss_nil)
        (pss_cons ps_never (pss_cons ps_never (pss_cons ps_never (pss_one ps_never))))))), ?_⟩
      rcases hf with rfl | ⟨y, rfl⟩ | ⟨y, rfl⟩ | ⟨y, rfl⟩
      · refine ⟨_, rfl, rfl, _, rfl, iteT ⟨_, rfl, rfl, ?_⟩⟩
        exact q H (.refl H)
      · refine ⟨_, rfl, rfl, _, rfl, iteF ⟨_, rfl, _, _, _, _, true, rfl, .ty "bool", .base (.bl y), kit_ty (by decide +kernel), _, rfl, iteT ?_⟩⟩
        refine ⟨_, rfl, _, _, _, _, true, rfl, .ty "bool", .base (.bl y), kit_ty (by decide +kernel), _, rfl, iteT ⟨_, rfl, _, rfl, by cases y <;> rfl, ?_⟩⟩
        rw [decide_eq_true rfl]
        exact q H (.refl H)
      · refine ⟨_, rfl, rfl, _, rfl, iteF ⟨_, rfl, _, _, _, _, false, rfl, .ty "bool", .base (.int y), kit_ty (by decide +kernel), _, rfl, iteF ?_⟩⟩
        refine ⟨_, rfl, _, _, _, _, true, rfl, .ty "int", .base (.int y), kit_ty (by decide +kernel), _, rfl, iteT ?_⟩
        refine ⟨_, rfl, _, _, _, _, true, rfl, .ty "int", .base (.int y), kit_ty (by decide +kernel), _, rfl, iteT ?_⟩
        refine ⟨_, rfl, _, _, _, _, false, rfl, .ty "bool", .base (.int y), kit_ty (by decide +kernel), _, rfl, _, rfl, iteT ⟨_, rfl, _, rfl, rfl, ?_⟩⟩
        rw [decide_eq_true rfl]
        exact q H (.refl H)
      · refine ⟨_, rfl, rfl, _, rfl, iteF ⟨_, rfl, _, _, _, _, false, rfl, .ty "bool", .base (.str y), kit_ty (by decide +kernel), _, rfl, iteF ?_⟩⟩
        refine ⟨_, rfl, _, _, _, _, false, rfl, .ty "int", .base (.str y), kit_ty (by decide +kernel), _, rfl, iteF ?_⟩
        refine ⟨_, rfl, _, _, _, _, true, rfl, .ty "str", .base (.str y), kit_ty (by decide +kernel), _, rfl, iteT ?_⟩
        refine ⟨_, rfl, _, _, _, _, true, rfl, .ty "str", .base (.str y), kit_ty (by decide +kernel), _, rfl, iteT ⟨_, rfl, _, rfl, rfl, ?_⟩⟩
        rw [decide_eq_true rfl]
        exact q H (.refl H)
  | succ n ih =>
    refine F.ok sc_l_equal (fun vs H Q E h => ?_) (fun cdv A outer s H vs Q E hr h => ?_)
    · obtain ⟨a, b, rfl, _⟩ := h
      rfl
    · obtain ⟨a, b, rfl, he, q⟩ := h
      refine ⟨_, pss_cons (ps_if (pt_cmpR op_isN (pv 1) pe_non (nomark _)) (pss_one (ps_ret (pe_cmpR op_isN (pv 0) pe_non (nomark _)))) pss_nil)
        (pss_cons (ps_if (pt_val (pe_callB call_isi (by rfl) B.isi PyProof.Rows.boot_isinstance (pa_cons (pv 1) (pa_cons (pe_bltn (v := .ty "bool") (by rfl) B.bool (by decide +kernel) rfl) pa_nil))))
          (pss_one (ps_ret (pe_and (pe_callB call_isi (by rfl) B.isi PyProof.Rows.boot_isinstance (pa_cons (pv 0) (pa_cons (pe_bltn (v := .ty "bool") (by rfl) B.bool (by decide +kernel) rfl) pa_nil))) (pe_one (pe_cmpR op_eq (pv 0) (pv 1) (nomark _)))))) pss_nil)
        (pss_cons (ps_if (pt_val (pe_callB call_isi (by rfl) B.isi PyProof.Rows.boot_isinstance (pa_cons (pv 1) (pa_cons (pe_bltn (v := .ty "int") (by rfl) B.int (by decide +kernel) rfl) pa_nil))))
          (pss_one (ps_ret (pe_and (pe_callB call_isi (by rfl) B.isi PyProof.Rows.boot_isinstance (pa_cons (pv 0) (pa_cons (pe_bltn (v := .ty "int") (by rfl) B.int (by decide +kernel) rfl) pa_nil)))
            (pe_and (pe_not (pe_callB call_isi (by rfl) B.isi PyProof.Rows.boot_isinstance (pa_cons (pv 0) (pa_cons (pe_bltn (v := .ty "bool") (by rfl) B.bool (by decide +kernel) rfl) pa_nil)))) (pe_one (pe_cmpR op_eq (pv 0) (pv 1) (nomark _))))))) pss_nil)
        (pss_cons (ps_if (pt_val (pe_callB call_isi (by rfl) B.isi PyProof.Rows.boot_isinstance (pa_cons (pv 1) (pa_cons (pe_bltn (v := .ty "str") (by rfl) B.str (by decide +kernel) rfl) pa_nil))))
          (pss_one (ps_ret (pe_and (pe_callB call_isi (by rfl) B.isi PyProof.Rows.boot_isinstance (pa_cons (pv 0) (pa_cons (pe_bltn (v := .ty "str") (by rfl) B.str (by decide +kernel) rfl) pa_nil))) (pe_one (pe_cmpR op_eq (pv 0) (pv 1) (nomark _)))))) pss_nil)
        (pss_cons (ps_if (pt_cmpR op_ne (pe_callB call_isi (by rfl) B.isi PyProof.Rows.boot_isinstance (pa_cons (pv 1) (pa_cons (pe_bltn (v := .ty "tuple") (by rfl) B.tuple (by decide +kernel) rfl) pa_nil)))
            (pe_callB call_isi (by rfl) B.isi PyProof.Rows.boot_isinstance (pa_cons (pv 0) (pa_cons (pe_bltn (v := .ty "tuple") (by rfl) B.tuple (by decide +kernel) rfl) pa_nil))) (nomark _)) (pss_one (ps_ret pe_bl)) pss_nil)
        (pss_cons (ps_if (pt_cmpR op_ne (pe_callB call_isi (by rfl) B.isi PyProof.Rows.boot_isinstance (pa_cons (pv 1) (pa_cons (pe_bltn (v := .ty "list") (by rfl) B.list (by decide +kernel) rfl) pa_nil)))
            (pe_callB call_isi (by rfl) B.isi PyProof.Rows.boot_isinstance (pa_cons (pv 0) (pa_cons (pe_bltn (v := .ty "list") (by rfl) B.list (by decide +kernel) rfl) pa_nil))) (nomark _)) (pss_one (ps_ret pe_bl)) pss_nil)
        (pss_cons (ps_if (pt_cmpR op_ne (pe_callB call_len_seq (by rfl) B.len PySem.boot_len (pa_cons (pv 0) pa_nil)) (pe_callB call_len_seq (by rfl) B.len PySem.boot_len (pa_cons (pv 1) pa_nil)) (nomark _)) (pss_one (ps_ret pe_bl)) pss_nil)
        (pss_one (ps_ret (pe_callB (cr_all rfl) (by rfl) B.all PyProof.Rows.boot_all (pa_cons (pe_lc (own := [("_law_k", 2)]) (g := gName 2) (tt := tYes) (by rfl) sc_l_equal.nd
            (pi_range1 rfl B.range (pa_cons (pe_callB call_len_seq (by rfl) B.len PySem.boot_len (pa_cons (pv 1) pa_nil)) pa_nil)) (blkOk_by (N := N_l_equal) (sc := defScope s_l_equal) (by decide +kernel))
            (fun _ _ _ _ _ => pg_name (i := 2) sc_l_equal.nd rfl (.inl rfl)) (fun _ _ _ _ _ => pts_nil)
            (te := tCall (spEqual n) [] E0 (tCons (tOp (rIx K) (tVar 0) (tVar 2)) (tCons (tOp (rIx K) (tVar 1) (tVar 2)) tNil)))
            (fun _ _ _ _ _ => pe_call ih hr (by rfl) gE F.kp bE .nil pass0 (pa_cons (pe_ix ix_seq (pv 0) (pv 2) (fun _ _ => rfl)) (pa_cons (pe_ix ix_seq (pv 1) (pv 2) (fun _ _ => rfl)) pa_nil)))) pa_nil)))))))))), ?_⟩
      rcases he with ⟨rfl, hf⟩ | ⟨p1, p2, xs, ys, rfl, rfl, h1, h2, hl, hP⟩ | ⟨p1, p2, xs, ys, rfl, rfl, h1, h2, hl, hP⟩
      · rcases hf with rfl | ⟨y, rfl⟩ | ⟨y, rfl⟩ | ⟨y, rfl⟩
        · refine ⟨_, rfl, rfl, _, rfl, iteT ⟨_, rfl, rfl, ?_⟩⟩
          exact q H (.refl H)
        · refine ⟨_, rfl, rfl, _, rfl, iteF ⟨_, rfl, _, _, _, _, true, rfl, .ty "bool", .base (.bl y), kit_ty (by decide +kernel), _, rfl, iteT ?_⟩⟩
          refine ⟨_, rfl, _, _, _, _, true, rfl, .ty "bool", .base (.bl y), kit_ty (by decide +kernel), _, rfl, iteT ⟨_, rfl, _, rfl, by cases y <;> rfl, ?_⟩⟩
          rw [decide_eq_true rfl]
          exact q H (.refl H)
        · refine ⟨_, rfl, rfl, _, rfl, iteF ⟨_, rfl, _, _, _, _, false, rfl, .ty "bool", .base (.int y), kit_ty (by decide +kernel), _, rfl, iteF ?_⟩⟩
          refine ⟨_, rfl, _, _, _, _, true, rfl, .ty "int", .base (.int y), kit_ty (by decide +kernel), _, rfl, iteT ?_⟩
          refine ⟨_, rfl, _, _, _, _, true, rfl, .ty "int", .base (.int y), kit_ty (by decide +kernel), _, rfl, iteT ?_⟩
          refine ⟨_, rfl, _, _, _, _, false, rfl, .ty "bool", .base (.int y), kit_ty (by decide +kernel), _, rfl, _, rfl, iteT ⟨_, rfl, _, rfl, rfl, ?_⟩⟩
          rw [decide_eq_true rfl]
          exact q H (.refl H)
        · refine ⟨_, rfl, rfl, _, rfl, iteF ⟨_, rfl, _, _, _, _, false, rfl, .ty "bool", .base (.str y), kit_ty (by decide +kernel), _, rfl, iteF ?_⟩⟩
          refine ⟨_, rfl, _, _, _, _, false, rfl, .ty "int", .base (.str y), kit_ty (by decide +kernel), _, rfl, iteF ?_⟩
          refine ⟨_, rfl, _, _, _, _, true, rfl, .ty "str", .base (.str y), kit_ty (by decide +kernel), _, rfl, iteT ?_⟩
          refine ⟨_, rfl, _, _, _, _, true, rfl, .ty "str", .base (.str y), kit_ty (by decide +kernel), _, rfl, iteT ⟨_, rfl, _, rfl, rfl, ?_⟩⟩
          rw [decide_eq_true rfl]
          exact q H (.refl H)
      · have el := hP.length
        refine ⟨_, rfl, rfl, _, rfl, iteF ⟨_, rfl, _, _, _, _, false, rfl, .ty "bool", .base (.tup h2), kit_ty (by decide +kernel), _, rfl, iteF ?_⟩⟩
        refine ⟨_, rfl, _, _, _, _, false, rfl, .ty "int", .base (.tup h2), kit_ty (by decide +kernel), _, rfl, iteF ?_⟩
        refine ⟨_, rfl, _, _, _, _, false, rfl, .ty "str", .base (.tup h2), kit_ty (by decide +kernel), _, rfl, iteF ?_⟩
        refine ⟨_, rfl, _, _, _, _, true, rfl, .ty "tuple", .base (.tup h2), kit_ty (by decide +kernel), _, rfl, _, _, _, _, true, rfl, .ty "tuple", .base (.tup h1), kit_ty (by decide +kernel), rfl, _, rfl, ?_⟩
        rw [bl_ne rfl]
        refine iteF ⟨_, rfl, _, _, _, _, false, rfl, .ty "list", .base (.tup h2), kit_ty (by decide +kernel), _, rfl, _, _, _, _, false, rfl, .ty "list", .base (.tup h1), kit_ty (by decide +kernel), rfl, _, rfl, ?_⟩
        rw [bl_ne rfl]
        refine iteF ⟨_, rfl, p1, xs, rfl, .inr (SqT.of h1), _, rfl, p2, ys, rfl, .inr (SqT.of h2), rfl, _, rfl, ?_⟩
        rw [show (!decide (V.int (xs.length : Int) = V.int (ys.length : Int))) = false by rw [el, decide_eq_true rfl]; rfl]
        refine iteF ⟨_, rfl, p2, ys, rfl, .inr (SqT.of h2), ys.length, rfl, by omega, by omega, fun D nD => ?_⟩
        refine lc_range (lo := 0) (n := (ys.length : Int).toNat) (fun i H' => Same H H' ∧ H' D = some (.lst ((List.replicate i true).map V.bl))) ⟨same_upd nD, upd_same⟩ ?_ ?_
        · rintro i H' hi ⟨s1, hD⟩
          have hi2 : i < ys.length := by omega
          obtain ⟨x, hx, hxy⟩ := Paired.get? (i := i) hP (List.getElem?_eq_getElem hi2)
          refine ⟨rfl, _, rfl, _, rfl, .inr (.inl ⟨p1, xs, ((i : Nat) : Int), x, rfl, by show V.int (0 + (i : Int)) = _; rw [Int.zero_add], SqT.of (s1 _ _ h1), atI_nat hx, ?_⟩)⟩
          refine ⟨_, rfl, _, rfl, .inr (.inl ⟨p2, ys, ((i : Nat) : Int), _, rfl, by show V.int (0 + (i : Int)) = _; rw [Int.zero_add], SqT.of (s1 _ _ h2), atI_nat (List.getElem?_eq_getElem hi2), ?_⟩)⟩
          refine ⟨x, _, rfl, hxy.same s1, fun H2 s2 => ?_⟩
          refine ⟨_, s2 _ _ hD, ?_, same_updN (s1.trans s2) nD, ?_⟩
          · rw [List.length_map, List.length_replicate]
            exact small1000 (by omega)
          · rw [upd_same, List.replicate_succ', List.map_append]
            rfl
        · rintro H' ⟨s1, hD⟩
          refine ⟨D, _, rfl, SqL.of hD, ?_⟩
          rw [show (List.replicate (ys.length : Int).toNat true).all id = true by simp]
          exact q _ s1
      · have el := hP.length
        refine ⟨_, rfl, rfl, _, rfl, iteF ⟨_, rfl, _, _, _, _, false, rfl, .ty "bool", .base (.lst h2), kit_ty (by decide +kernel), _, rfl, iteF ?_⟩⟩
        refine ⟨_, rfl, _, _, _, _, false, rfl, .ty "int", .base (.lst h2), kit_ty (by decide +kernel), _, rfl, iteF ?_⟩
        refine ⟨_, rfl, _, _, _, _, false, rfl, .ty "str", .base (.lst h2), kit_ty (by decide +kernel), _, rfl, iteF ?_⟩
        refine ⟨_, rfl, _, _, _, _, false, rfl, .ty "tuple", .base (.lst h2), kit_ty (by decide +kernel), _, rfl, _, _, _, _, false, rfl, .ty "tuple", .base (.lst h1), kit_ty (by decide +kernel), rfl, _, rfl, ?_⟩
        rw [bl_ne rfl]
        refine iteF ⟨_, rfl, _, _, _, _, true, rfl, .ty "list", .base (.lst h2), kit_ty (by decide +kernel), _, rfl, _, _, _, _, true, rfl, .ty "list", .base (.lst h1), kit_ty (by decide +kernel), rfl, _, rfl, ?_⟩
        rw [bl_ne rfl]
        refine iteF ⟨_, rfl, p1, xs, rfl, .inl (SqL.of h1), _, rfl, p2, ys, rfl, .inl (SqL.of h2), rfl, _, rfl, ?_⟩
        rw [show (!decide (V.int (xs.length : Int) = V.int (ys.length : Int))) = false by rw [el, decide_eq_true rfl]; rfl]
        refine iteF ⟨_, rfl, p2, ys, rfl, .inl (SqL.of h2), ys.length, rfl, by omega, by omega, fun D nD => ?_⟩
        refine lc_range (lo := 0) (n := (ys.length : Int).toNat) (fun i H' => Same H H' ∧ H' D = some (.lst ((List.replicate i true).map V.bl))) ⟨same_upd nD, upd_same⟩ ?_ ?_
        · rintro i H' hi ⟨s1, hD⟩
          have hi2 : i < ys.length := by omega
          obtain ⟨x, hx, hxy⟩ := Paired.get? (i := i) hP (List.getElem?_eq_getElem hi2)
          refine ⟨rfl, _, rfl, _, rfl, .inl ⟨p1, xs, ((i : Nat) : Int), x, rfl, by show V.int (0 + (i : Int)) = _; rw [Int.zero_add], SqL.of (s1 _ _ h1), atI_nat hx, ?_⟩⟩
          refine ⟨_, rfl, _, rfl, .inl ⟨p2, ys, ((i : Nat) : Int), _, rfl, by show V.int (0 + (i : Int)) = _; rw [Int.zero_add], SqL.of (s1 _ _ h2), atI_nat (List.getElem?_eq_getElem hi2), ?_⟩⟩
          refine ⟨x, _, rfl, hxy.same s1, fun H2 s2 => ?_⟩
          refine ⟨_, s2 _ _ hD, ?_, same_updN (s1.trans s2) nD, ?_⟩
          · rw [List.length_map, List.length_replicate]
            exact small1000 (by omega)
          · rw [upd_same, List.replicate_succ', List.map_append]
            rfl
        · rintro H' ⟨s1, hD⟩
          refine ⟨D, _, rfl, SqL.of hD, ?_⟩
          rw [show (List.replicate (ys.length : Int).toNat true).all id = true by simp]
          exact q _ s1
end
theorem optEqv {H : Hp} {v v' : V} {o : Option (Nat × Nat)} (h : OptStop H v o) (h' : OptStop H v' o) : Eqv 1 H v v' := by
  cases o with
  | none =>
    obtain rfl : v = .non := h
    obtain rfl : v' = .non := h'
    exact Eqv.non
  | some s =>
    obtain ⟨u, rfl, hu⟩ := h
    obtain ⟨u2, rfl, hu2⟩ := h'
    exact .inr (.inl ⟨u, u2, _, _, rfl, rfl, hu, hu2, by show 2 ≤ 1000; decide, .cons Eqv.int (.cons Eqv.int .nil)⟩)
theorem OptStop.keep {H H' : Hp} {v : V} {o : Option (Nat × Nat)} (k : TupKeep H H') (h : OptStop H v o) : OptStop H' v o := by
  cases o with
  | none => exact h
  | some s => exact StopAt.keep k h
abbrev s_l_net : Stmt := top 27
abbrev N_l_net : List Str := ["_law_parts_here"]
abbrev P_l_net : List Str := ["_law_parts_here"]
theorem sc_l_net : FnScope N_l_net P_l_net (defScope s_l_net) := ⟨rfl, rfl, rfl, by decide +kernel, rfl, by decide +kernel, by decide +kernel⟩
/-! ### the law's helper: a net of parts -/
def spNet (C : Addr) : Sp := fun vs H Q _ => ∃ (a t : Addr) (p h : Nat) (os : List Od), vs = [.ref a] ∧ H a = some (.tup [.int p, .int h, .ref t]) ∧ OrdsTup H t os ∧ NetOk p h os ∧
  ∀ H' x F, Same H H' → (∀ b ∈ F, H b = none) → NetAt C H' x p h os t F → Q (.ref x) H'
section
variable {P : Program} {w : World} {K : PySem.W.Frag} {mg : Str → Option Value} {base : Heap}
theorem ok_net {f C fI : Addr} {fd fdI : FuncData} (F : Fun K "_law_net" "_law_net" s_l_net f fd) (M : Mk K C fI) (gC : mg "Net" = some (.ref C)) (GI : FnOk P w K mg base CX0 5 fI fdI P_Net_init (spInit C)) (bI : Binds K fdI P_Net_init []) : FnOk P w K mg base CX0 7 f fd P_l_net (spNet C) := by
  refine F.ok sc_l_net (fun vs H Q E h => ?_) (fun cdv A outer s H vs Q E hr h => ?_)
  · obtain ⟨a, t, p, h, os, rfl, _⟩ := h
    rfl
  · obtain ⟨a, t, p, h, os, rfl, ha, hO, ok, q⟩ := h
    refine ⟨_, pss_one (ps_ret (pe_make M GI hr (by rfl) gC bI .nil pass0 (pa_cons (pe_ix ix_tup (pv 0) pe_int (fun _ _ => rfl)) (pa_cons (pe_ix ix_tup (pv 0) pe_int (fun _ _ => rfl)) (pa_cons (pe_ix ix_tup (pv 0) pe_int (fun _ _ => rfl)) pa_nil))))), ?_⟩
    refine ⟨_, rfl, a, _, 0, _, rfl, rfl, SqT.of ha, atI_nat (j := 0) rfl, _, rfl, a, _, 1, _, rfl, rfl, SqT.of ha, atI_nat (j := 1) rfl, _, rfl, a, _, 2, _, rfl, rfl, SqT.of ha, atI_nat (j := 2) rfl, ?_⟩
    intro x dx nx ndx nex
    have s0 : Same H (upd (upd H dx (.own x)) x (.ins C dx [])) := same_updN (same_upd ndx) nx
    exact ⟨x, dx, t, p, h, os, H, rfl, ok, hO.keep (tk_of s0), s0, nx, upd_same, fun H' F s1 nF N => ⟨rfl, q H' x F s1 nF N⟩⟩
end
/-! ### the law -/
def spLaw (K : PySem.W.Frag) : Sp := fun vs H Q _ => ∃ (a : Addr) (ns : List Int), vs = [.ref a] ∧ SqL K H a (ns.map V.int) ∧ ns.length ≤ 63 ∧ ∀ H', Q (.bl true) H'
/-- all that the law's step leans on, at the heap H -/
structure StepAt (C : Addr) (H : Hp) (d ap x t : Addr) (p h : Nat) (os : List Od) (F : List Addr) : Prop where
  D : DAt H d
  pa : H ap = some (.tup [.int p, .int h, .ref t])
  po : OrdsTup H t os
  N : NetAt C H x p h os t F
theorem StepAt.keep {C : Addr} {H H' : Hp} {d ap x t : Addr} {p h : Nat} {os : List Od} {F : List Addr} (S : StepAt C H d ap x t p h os F) (s : Same H H') : StepAt C H' d ap x t p h os F :=
  ⟨S.D.but s, s _ _ S.pa, S.po.keep (tk_of s), S.N.same s⟩
theorem StepAt.but {C : Addr} {H H' : Hp} {d ap x t : Addr} {p h : Nat} {os : List Od} {F : List Addr} (S : StepAt C H d ap x t p h os F) (s : But d H H') (D' : DAt H' d) (nF : d ∉ F) : StepAt C H' d ap x t p h os F :=
  ⟨D', s.tk S.D _ _ S.pa, S.po.keep (s.tk S.D), S.N.but s (s.tk S.D) nF⟩
theorem StepAt.lst {C : Addr} {H : Hp} {d ap x t u : Addr} {p h : Nat} {os : List Od} {F : List Addr} {xs : List V} {o : HO} (S : StepAt C H d ap x t p h os F) (hu : H u = some (.lst xs)) (nd : d ≠ u) (nF : u ∉ F) : StepAt C (upd H u o) d ap x t p h os F := by
  have tk : TupKeep H (upd H u o) := TupKeep.lst hu
  exact ⟨S.D.updN nd, tk _ _ S.pa, S.po.keep tk, S.N.but .upd tk nF⟩
theorem StepAt.parts {C : Addr} {H : Hp} {d ap x t : Addr} {p h : Nat} {os : List Od} {F : List Addr} (S : StepAt C H d ap x t p h os F) : PartsAt H ap p h os := ⟨t, S.pa, S.po⟩
theorem ordsEqv {H : Hp} {t : Addr} {os : List Od} (h : OrdsTup H t os) (l : os.length ≤ 20) : Eqv 2 H (.ref t) (.ref t) := by
  obtain ⟨ts, ht, hP⟩ := h
  refine .inr (.inl ⟨t, t, ts, ts, rfl, rfl, ht, ht, by rw [hP.length]; omega, ?_⟩)
  clear l ht
  induction hP with
  | nil => exact .nil
  | cons r _ ih =>
    refine .cons ?_ ih
    obtain ⟨u, rfl, hu⟩ := r
    exact .inr (.inl ⟨u, u, _, _, rfl, rfl, hu, hu, by show 5 ≤ 1000; decide, .cons Eqv.int (.cons Eqv.int (.cons Eqv.int (.cons Eqv.int (.cons Eqv.int .nil))))⟩)
theorem nintsEqv {H : Hp} {a b : Addr} {l : List Nat} (ha : H a = some (.lst (nints l))) (hb : H b = some (.lst (nints l))) (hl : l.length ≤ 1000) : Eqv 1 H (.ref a) (.ref b) := by
  refine .inr (.inr ⟨a, b, _, _, rfl, rfl, ha, hb, by unfold nints; rw [List.length_map]; exact hl, ?_⟩)
  unfold nints
  clear ha hb hl
  induction l with
  | nil => exact .nil
  | cons n l ih => exact .cons ⟨rfl, .inr (.inr (.inl ⟨_, rfl⟩))⟩ ih
theorem stopsEqv {H : Hp} {a b : Addr} {xs ys : List V} {l : List (Nat × Nat)} (ha : H a = some (.lst xs)) (hb : H b = some (.lst ys)) (hx : Paired (StopAt H) xs l) (hy : Paired (StopAt H) ys l) (hl : l.length ≤ 1000) : Eqv 2 H (.ref a) (.ref b) := by
  refine .inr (.inr ⟨a, b, _, _, rfl, rfl, ha, hb, by rw [hx.length]; exact hl, ?_⟩)
  clear ha hb hl
  induction hx generalizing ys with
  | nil => cases hy; exact .nil
  | cons r _ ih =>
    cases hy with
    | cons r2 t2 =>
      refine .cons ?_ (ih t2)
      obtain ⟨u, rfl, hu⟩ := r
      obtain ⟨u2, rfl, hu2⟩ := r2
      exact .inr (.inl ⟨u, u2, _, _, rfl, rfl, hu, hu2, by show 2 ≤ 1000; decide, .cons (Eqv.int) (.cons Eqv.int .nil)⟩)
theorem optV_flat1 (o : Option Nat) : Flat1 (optV o) := by
  cases o with
  | none => exact .inl rfl
  | some k => exact .inr (.inr (.inl ⟨_, rfl⟩))
theorem Paired.last {α β : Type} {F : α → β → Prop} {xs : List α} {l : List β} {s : β} (h : Paired F xs (l ++ [s])) : ∃ ys v, xs = ys ++ [v] ∧ Paired F ys l ∧ F v s := by
  induction l generalizing xs with
  | nil =>
    cases h with
    | cons r t =>
      cases t
      exact ⟨[], _, rfl, .nil, r⟩
  | cons b l ih =>
    cases h with
    | cons r t =>
      obtain ⟨ys, v, rfl, h1, h2⟩ := ih t
      exact ⟨_ :: ys, v, rfl, .cons r h1, h2⟩
theorem Paired.take {α β : Type} {F : α → β → Prop} {xs : List α} {l : List β} (h : Paired F xs l) : ∀ n, Paired F (xs.take n) (l.take n) := by
  induction h with
  | nil =>
    intro n
    rw [List.take_nil, List.take_nil]
    exact .nil
  | cons r _ ih =>
    intro n
    cases n with
    | zero => exact .nil
    | succ n => exact .cons r (ih n)
theorem nints_dp {K : PySem.W.Frag} {H : Hp} {a : Addr} {l : List Nat} (h : H a = some (.lst (nints l))) : Dp K H (.ref a) (.list ((l.map fun (n : Nat) => (n : Int)).map PyData.int)) := by
  refine .lst (SqL.of h) ?_
  clear h
  unfold nints
  induction l with
  | nil => exact .nil
  | cons n l ih => exact .cons (.int _) ih
theorem nints_eqv (l : List Int) : PyData.eqv (.list (l.map PyData.int)) (.list (l.map PyData.int)) = true :=
  PySem.SeqAt.eqv_refl _ (PySem.SeqAt.canLay_of_shaped (PySem.W.ke_shaped_ints l))
/-! ### loops: plain mathematics -/
theorem plc_shf {p k : Nat} (s : Nat × Nat) : plc p (shf (p * k) s) = plc p s := by
  unfold plc shf
  rw [Nat.add_mul_mod_self_left]
theorem plc_plc {p : Nat} (s : Nat × Nat) : plc p (plc p s) = plc p s := by
  unfold plc
  rw [Nat.mod_mod]
theorem shf_plc {p : Nat} (s : Nat × Nat) : s = shf (p * (s.2 / p)) (plc p s) := by
  obtain ⟨a, d⟩ := s
  show (a, d) = (a, d % p + p * (d / p))
  rw [Nat.add_comm, Nat.div_add_mod]
/-- a letter's place behind i hops -/
def pst (p : Nat) (os : List Od) (i : Nat) (q : Nat × Nat) : Option (Nat × Nat) := (stp p os i q).map (plc p)
theorem pst_shf {p i k : Nat} {os : List Od} (s : Nat × Nat) : pst p os i (shf (p * k) s) = pst p os i s := by
  unfold pst
  rw [stp_shf, Option.map_map]
  congr 1
  funext t
  exact plc_shf t
theorem pst_plc {p i : Nat} {os : List Od} (s : Nat × Nat) : pst p os i (plc p s) = pst p os i s := by
  conv => rhs; rw [shf_plc (p := p) s]
  rw [pst_shf]
theorem pst_add {p i j : Nat} {os : List Od} (s : Nat × Nat) : pst p os (i + j) s = (pst p os i s).bind (pst p os j) := by
  unfold pst
  rw [stp_add]
  cases stp p os i s with
  | none => rfl
  | some c => exact (pst_plc c).symm
theorem pst_zero {p : Nat} {os : List Od} (s : Nat × Nat) : pst p os 0 s = some (plc p s) := rfl
/-- l is a loop: the places that f goes through, again and again -/
structure CycF (p : Nat) (os : List Od) (l : List (Nat × Nat)) (f : Nat → Nat × Nat) (n : Nat) : Prop where
  n0 : 0 < n
  eq : l = (List.range n).map f
  nd : l.Nodup
  nx : ∀ i, pst p os 1 (f i) = some (f (i + 1))
  per : ∀ i, f (i + n) = f i
def Cyc (p : Nat) (os : List Od) (l : List (Nat × Nat)) : Prop := ∃ f n, CycF p os l f n
section
variable {p : Nat} {os : List Od} {l l' : List (Nat × Nat)} {f g : Nat → Nat × Nat} {n m : Nat}
theorem CycF.len (c : CycF p os l f n) : l.length = n := by rw [c.eq, List.length_map, List.length_range]
theorem CycF.get (c : CycF p os l f n) {i : Nat} (h : i < n) : l[i]? = some (f i) := by rw [c.eq, List.getElem?_map, List.getElem?_range h]; rfl
theorem CycF.perk (c : CycF p os l f n) (i : Nat) : ∀ k, f (i + n * k) = f i
  | 0 => rfl
  | k + 1 => by
    rw [Nat.mul_succ, ← Nat.add_assoc, c.per]
    exact c.perk i k
theorem CycF.mod (c : CycF p os l f n) (i : Nat) : f (i % n) = f i := by
  have h := c.perk (i % n) (i / n)
  rw [Nat.mod_add_div] at h
  exact h.symm
theorem CycF.mem (c : CycF p os l f n) {x : Nat × Nat} : x ∈ l ↔ ∃ i, x = f i := by
  rw [c.eq, List.mem_map]
  constructor
  · rintro ⟨i, _, rfl⟩
    exact ⟨i, rfl⟩
  · rintro ⟨i, rfl⟩
    exact ⟨i % n, List.mem_range.mpr (Nat.mod_lt _ c.n0), c.mod i⟩
theorem CycF.inj (c : CycF p os l f n) {i j : Nat} (hi : i < n) (hj : j < n) (e : f i = f j) : i = j := by
  have a := c.get hi
  have b := c.get hj
  rw [← e] at b
  exact (List.getElem?_inj (by rw [c.len]; exact hi) c.nd).mp (a.trans b.symm)
theorem CycF.place (c : CycF p os l f n) (i : Nat) : plc p (f i) = f i := by
  have h := c.nx (i + (n - 1))
  have n0 := c.n0
  rw [show i + (n - 1) + 1 = i + n by omega, c.per] at h
  unfold pst at h
  obtain ⟨t, _, e⟩ := Option.map_eq_some_iff.mp h
  rw [← e]
  exact plc_plc t
theorem CycF.steps (c : CycF p os l f n) (i : Nat) : ∀ k, pst p os k (f i) = some (f (i + k))
  | 0 => by rw [pst_zero, c.place]; rfl
  | k + 1 => by
    rw [pst_add, c.steps i k]
    exact c.nx (i + k)
/-- the rest of both, from a shared place -/
theorem CycF.along (c : CycF p os l f n) (d : CycF p os l' g m) {i j : Nat} (e : f i = g j) (k : Nat) : f (i + k) = g (j + k) := by
  have a := c.steps i k
  rw [e, d.steps j k] at a
  exact (Option.some.inj a).symm
theorem CycF.le_of (c : CycF p os l f n) (d : CycF p os l' g m) {i j : Nat} (e : f i = g j) : n ≤ m := by
  refine Nat.le_of_not_lt fun lt => ?_
  have h := c.along d e m
  rw [d.per, ← e, ← c.mod (i + m), ← c.mod i] at h
  have n0 := c.n0
  have m0 := d.n0
  have := c.inj (Nat.mod_lt _ n0) (Nat.mod_lt _ n0) h
  have e2 : (i + m) % n = (i % n + m) % n := by rw [Nat.mod_add_mod]
  rw [e2] at this
  have hi := Nat.mod_lt i n0
  by_cases z : i % n + m < n
  · rw [Nat.mod_eq_of_lt z] at this
    omega
  · rw [Nat.mod_eq_sub_mod (by omega), Nat.mod_eq_of_lt (by omega)] at this
    omega
theorem CycF.same_len (c : CycF p os l f n) (d : CycF p os l' g m) {i j : Nat} (e : f i = g j) : n = m := Nat.le_antisymm (c.le_of d e) (d.le_of c e.symm)
theorem CycF.sub (c : CycF p os l f n) (d : CycF p os l' g m) {i j : Nat} (e : f i = g j) {x : Nat × Nat} (hx : x ∈ l) : x ∈ l' := by
  obtain ⟨k, rfl⟩ := c.mem.mp hx
  have h := c.along d e (k + (n * (i + 1) - i))
  have n0 := c.n0
  have hge : i ≤ n * (i + 1) := Nat.le_trans (Nat.le_succ i) (Nat.le_mul_of_pos_left _ n0)
  rw [show i + (k + (n * (i + 1) - i)) = k + n * (i + 1) by omega, c.perk] at h
  rw [h]
  exact d.mem.mpr ⟨_, rfl⟩
theorem CycF.eq_of_head (c : CycF p os l f n) (d : CycF p os l' g m) (e : f 0 = g 0) : l = l' := by
  obtain rfl := c.same_len d e
  rw [c.eq, d.eq]
  refine List.map_congr_left fun i _ => ?_
  have := c.along d e i
  rw [Nat.zero_add] at this
  exact this
theorem CycF.turn (c : CycF p os l f n) : CycF p os (l.drop 1 ++ l.take 1) (fun i => f (i + 1)) n := by
  have n0 := c.n0
  have hl : l.drop 1 ++ l.take 1 = (List.range n).map fun i => f (i + 1) := by
    obtain ⟨k, rfl⟩ : ∃ k, n = k + 1 := ⟨n - 1, by omega⟩
    have e1 : l = f 0 :: (List.range k).map fun i => f (i + 1) := by
      rw [c.eq, List.range_succ_eq_map, List.map_cons, List.map_map]
      rfl
    rw [e1, List.range_succ, List.map_append]
    show (List.range k).map _ ++ [f 0] = _
    have := c.per 0
    rw [Nat.zero_add] at this
    rw [← this]
    rfl
  refine ⟨n0, hl, ?_, fun i => c.nx (i + 1), fun i => ?_⟩
  · refine List.Perm.nodup (l := l) ?_ c.nd
    have h := List.perm_append_comm (l₁ := l.take 1) (l₂ := l.drop 1)
    rw [List.take_append_drop] at h
    exact h
  · show f (i + n + 1) = f (i + 1)
    rw [show i + n + 1 = (i + 1) + n by omega, c.per]
end
/-- stops, one before the other -/
def ltS (s t : Nat × Nat) : Bool := if s.1 = t.1 then decide (s.2 < t.2) else decide (s.1 < t.1)
theorem ltS_iff {s t : Nat × Nat} : ltS s t = true ↔ s.1 < t.1 ∨ (s.1 = t.1 ∧ s.2 < t.2) := by
  unfold ltS
  split
  · rename_i h
    rw [decide_eq_true_iff]
    omega
  · rename_i h
    rw [decide_eq_true_iff]
    omega
theorem ltS_no {s t : Nat × Nat} : ltS s t = false ↔ ¬ (s.1 < t.1 ∨ (s.1 = t.1 ∧ s.2 < t.2)) := by
  rw [← ltS_iff]
  cases ltS s t <;> simp
theorem ltS_anti {s t : Nat × Nat} (h1 : ltS s t = false) (h2 : ltS t s = false) : s = t := by
  have a := ltS_no.mp h1
  have b := ltS_no.mp h2
  exact Prod.ext (by omega) (by omega)
theorem ltS_trans {s t u : Nat × Nat} (h1 : ltS s t = true) (h2 : ltS t u = true) : ltS s u = true := by
  have a := ltS_iff.mp h1
  have b := ltS_iff.mp h2
  exact ltS_iff.mpr (by omega)
/-- the least stop -/
def minS (x : Nat × Nat) (xs : List (Nat × Nat)) : Nat × Nat := xs.foldl (fun a y => if ltS y a then y else a) x
theorem minS_spec : ∀ (xs : List (Nat × Nat)) (x : Nat × Nat), minS x xs ∈ x :: xs ∧ ∀ y ∈ x :: xs, ltS y (minS x xs) = false
  | [], x => ⟨List.mem_cons_self, fun y hy => by
      rw [List.mem_singleton.mp hy]
      exact ltS_no.mpr (by show ¬ (x.1 < x.1 ∨ (x.1 = x.1 ∧ x.2 < x.2)); omega)⟩
  | z :: r, x => by
    show minS (if ltS z x then z else x) r ∈ _ ∧ ∀ y ∈ _, ltS y (minS (if ltS z x then z else x) r) = false
    obtain ⟨h1, h2⟩ := minS_spec r (if ltS z x then z else x)
    generalize hw : (if ltS z x then z else x) = w at h1 h2
    have hwm : w = z ∨ w = x := by
      rw [← hw]
      split
      · exact .inl rfl
      · exact .inr rfl
    have hwl : ltS z w = false ∧ ltS x w = false := by
      by_cases c : ltS z x = true
      · rw [if_pos c] at hw
        subst hw
        have := ltS_iff.mp c
        exact ⟨ltS_no.mpr (by omega), ltS_no.mpr (by omega)⟩
      · rw [if_neg c] at hw
        subst hw
        exact ⟨Bool.eq_false_iff.mpr c, ltS_no.mpr (by omega)⟩
    refine ⟨?_, fun y hy => ?_⟩
    · rcases List.mem_cons.mp h1 with e | e
      · rw [e]
        rcases hwm with e | e <;> rw [e] <;> simp
      · exact List.mem_cons_of_mem _ (List.mem_cons_of_mem _ e)
    · have key : ∀ u, ltS u w = false → ltS u (minS w r) = false := fun u hu => by
        have a := ltS_no.mp hu
        have b := ltS_no.mp (h2 w List.mem_cons_self)
        exact ltS_no.mpr (by omega)
      rcases List.mem_cons.mp hy with e | e
      · rw [e]
        exact key x hwl.2
      · rcases List.mem_cons.mp e with e | e
        · rw [e]
          exact key z hwl.1
        · exact h2 y (List.mem_cons_of_mem _ e)
/-- a list that begins with its least stop -/
def hm : List (Nat × Nat) → Bool
  | [] => false
  | x :: xs => decide (x = minS x xs)
theorem hm_iff {x : Nat × Nat} {xs : List (Nat × Nat)} : hm (x :: xs) = true ↔ ∀ y ∈ x :: xs, ltS y x = false := by
  unfold hm
  rw [decide_eq_true_iff]
  obtain ⟨h1, h2⟩ := minS_spec xs x
  constructor
  · intro e
    rw [← e] at h2
    exact h2
  · intro h
    exact ltS_anti (h2 x List.mem_cons_self) (h _ h1)
section
variable {p : Nat} {os : List Od} {l l' : List (Nat × Nat)}
theorem Cyc.cons (c : Cyc p os l) : ∃ x xs, l = x :: xs := by
  obtain ⟨f, n, c⟩ := c
  cases l with
  | nil =>
    have a := c.len
    have b := c.n0
    simp at a
    omega
  | cons x xs => exact ⟨x, xs, rfl⟩
/-- loops that share a stop and begin with their least are the same -/
theorem Cyc.uniq (c : Cyc p os l) (d : Cyc p os l') (h : hm l = true) (h' : hm l' = true) {x : Nat × Nat} (hx : x ∈ l) (hx' : x ∈ l') : l = l' := by
  obtain ⟨f, n, c⟩ := c
  obtain ⟨g, m, d⟩ := d
  obtain ⟨i, rfl⟩ := c.mem.mp hx
  obtain ⟨j, e⟩ := d.mem.mp hx'
  have hf : l[0]? = some (f 0) := c.get c.n0
  have hg : l'[0]? = some (g 0) := d.get d.n0
  have m1 : f 0 ∈ l' := c.sub d e (List.mem_of_getElem? hf)
  have m2 : g 0 ∈ l := d.sub c e.symm (List.mem_of_getElem? hg)
  refine c.eq_of_head d ?_
  cases l with
  | nil => cases hf
  | cons x xs =>
    cases l' with
    | nil => cases hg
    | cons y ys =>
      obtain rfl : x = f 0 := Option.some.inj hf
      obtain rfl : y = g 0 := Option.some.inj hg
      exact ltS_anti (hm_iff.mp h' _ m1) (hm_iff.mp h _ m2)
theorem Cyc.turn (c : Cyc p os l) : Cyc p os (l.drop 1 ++ l.take 1) := by
  obtain ⟨f, n, c⟩ := c
  exact ⟨_, _, c.turn⟩
theorem turn_mem {x : Nat × Nat} : x ∈ l.drop 1 ++ l.take 1 ↔ x ∈ l := by
  have h := List.perm_append_comm (l₁ := l.take 1) (l₂ := l.drop 1)
  rw [List.take_append_drop] at h
  exact h.mem_iff.symm
end
/-! ### the loops of a net: plain mathematics -/
theorem pst_house {p h : Nat} {os : List Od} {st : Nat × Nat} (ok : NetOk p h os) (hh : st.1 < h) : ∀ (i : Nat) {s : Nat × Nat}, stp p os i st = some s → s.1 < h
  | 0, s, e => by
    cases e
    exact hh
  | i + 1, s, e => by
    obtain ⟨c, hc, e⟩ := Option.bind_eq_some_iff.mp (show (stp p os i st).bind (hop p os) = some s from e)
    exact hop_house ok e
theorem pst_get {p i : Nat} {os : List Od} {st s : Nat × Nat} (e : stp p os i st = some s) : pst p os i st = some (plc p s) := by
  unfold pst
  rw [e]
  rfl
theorem pst_next {p i : Nat} {os : List Od} {st s t : Nat × Nat} (e : stp p os i st = some s) (e2 : stp p os (i + 1) st = some t) : pst p os 1 (plc p s) = some (plc p t) := by
  have h := pst_add (p := p) (os := os) (i := i) (j := 1) st
  rw [pst_get e, pst_get e2] at h
  exact h.symm
/-- what a letter that chases goes through again and again, from where it comes back to -/
def rawOf (p h : Nat) (os : List Od) (q : Nat × Nat) : Option (List (Nat × Nat)) := match (folR p h os q).2 with
  | none => none
  | some b => some (((folR p h os q).1.dropLast.drop b).map (plc p))
/-- the loop of a letter that comes back to its first stop -/
def lpOf (p h : Nat) (os : List Od) (q : Nat × Nat) : Option (List (Nat × Nat)) := match (folR p h os q).2 with
  | some 0 => some ((folR p h os q).1.dropLast.map (plc p))
  | _ => none
theorem raw_cycF {p h : Nat} {os : List Od} {q : Nat × Nat} {l : List (Nat × Nat)} (ok : NetOk p h os) (hh : q.1 < h) (e : rawOf p h os q = some l) : Cyc p os l ∧ (∀ x ∈ l, x.1 < h) ∧
    ∃ m s b, folR p h os q = (m ++ [s], some b) ∧ l = (m.drop b).map (plc p) ∧ plc p s ∈ l ∧ b < m.length ∧ ∀ x xs, l = x :: xs → ∃ t, m[b]? = some t ∧ x = plc p t := by
  rcases folR_cases ok hh with ⟨l', e', _⟩ | ⟨m, s, b, t, k, e', hl, hb, hs, hk, nd⟩
  · unfold rawOf at e
    rw [e'] at e
    cases e
  · unfold rawOf at e
    rw [e'] at e
    simp only [List.dropLast_concat] at e
    obtain rfl := Option.some.inj e
    have hbl : b < m.length := (List.getElem?_eq_some_iff.mp hb).1
    have hget : ∀ i, i < m.length → ∃ c, m[i]? = some c ∧ stp p os i q = some c := fun i hi => by
      have a := hl i (Nat.le_of_lt hi)
      rw [List.getElem?_append_left hi] at a
      exact ⟨m[i], List.getElem?_eq_getElem hi, a.symm.trans (List.getElem?_eq_getElem hi)⟩
    have hgs : stp p os m.length q = some s := by
      have a := hl m.length (Nat.le_refl _)
      rw [List.getElem?_append_right (Nat.le_refl _), Nat.sub_self] at a
      exact a.symm
    have hst : plc p s = plc p t := by rw [hs, plc_shf]
    have n0 : 0 < m.length - b := by omega
    let f : Nat → Nat × Nat := fun i => plc p (m.getD (b + i % (m.length - b)) (0, 0))
    have hf : ∀ i, i < m.length - b → ∃ c, m[b + i]? = some c ∧ stp p os (b + i) q = some c ∧ f i = plc p c := fun i hi => by
      obtain ⟨c, h1, h2⟩ := hget (b + i) (by omega)
      refine ⟨c, h1, h2, ?_⟩
      show plc p (m.getD (b + i % (m.length - b)) (0, 0)) = _
      rw [Nat.mod_eq_of_lt hi, List.getD_eq_getElem?_getD, h1]
      rfl
    have per : ∀ i, f (i + (m.length - b)) = f i := fun i => by
      show plc p (m.getD (b + (i + (m.length - b)) % (m.length - b)) (0, 0)) = _
      rw [Nat.add_mod_right]
    have modf : ∀ i, f (i % (m.length - b)) = f i := fun i => by
      show plc p (m.getD (b + (i % (m.length - b)) % (m.length - b)) (0, 0)) = _
      rw [Nat.mod_mod]
    have eql : (m.drop b).map (plc p) = (List.range (m.length - b)).map f := by
      refine List.ext_getElem? fun i => ?_
      rw [List.getElem?_map, List.getElem?_drop, List.getElem?_map]
      by_cases hi : i < m.length - b
      · obtain ⟨c, h1, _, h3⟩ := hf i hi
        rw [h1, List.getElem?_range hi]
        show some (plc p c) = some (f i)
        rw [h3]
      · rw [List.getElem?_eq_none (by omega), List.getElem?_eq_none (by rw [List.length_range]; omega)]
        rfl
    have nx : ∀ i, pst p os 1 (f i) = some (f (i + 1)) := fun i => by
      have hi := Nat.mod_lt i n0
      obtain ⟨c, h1, h2, h3⟩ := hf _ hi
      rw [← modf i, h3]
      by_cases z : i % (m.length - b) + 1 < m.length - b
      · obtain ⟨c', _, g2, g3⟩ := hf _ z
        have e1 : f (i + 1) = f (i % (m.length - b) + 1) := by rw [← modf (i + 1), ← modf (i % (m.length - b) + 1), Nat.mod_add_mod]
        rw [e1, g3]
        exact pst_next h2 g2
      · have e1 : f (i + 1) = f 0 := by
          rw [← modf (i + 1), ← Nat.mod_add_mod, show i % (m.length - b) + 1 = m.length - b by omega, Nat.mod_self]
        obtain ⟨c', k1, _, k3⟩ := hf 0 n0
        rw [Nat.add_zero] at k1
        obtain rfl : t = c' := Option.some.inj (hb.symm.trans k1)
        rw [e1, k3, ← hst]
        refine pst_next h2 ?_
        rw [show b + i % (m.length - b) + 1 = m.length by omega]
        exact hgs
    have nd2 : ((m.drop b).map (plc p)).Nodup := by
      rw [List.map_drop]
      exact nd.sublist (List.drop_sublist _ _)
    refine ⟨⟨f, _, n0, eql, nd2, nx, per⟩, fun x hx => ?_, m, s, b, e', rfl, ?_, hbl, fun x xs ex => ?_⟩
    · obtain ⟨c, hc, rfl⟩ := List.mem_map.mp hx
      obtain ⟨i, hi⟩ := List.getElem?_of_mem (List.mem_of_mem_drop hc)
      obtain ⟨c', k1, k2⟩ := hget i (List.getElem?_eq_some_iff.mp hi).1
      obtain rfl : c' = c := Option.some.inj (k1.symm.trans hi)
      exact (show c'.1 < h from pst_house ok hh i k2)
    · rw [hst]
      refine List.mem_map.mpr ⟨t, List.mem_of_getElem? (i := 0) ?_, rfl⟩
      rw [List.getElem?_drop]
      exact hb
    · have h0 : ((m.drop b).map (plc p))[0]? = some x := by rw [ex]; rfl
      rw [List.getElem?_map, List.getElem?_drop, Nat.add_zero, hb] at h0
      exact ⟨t, hb, (Option.some.inj h0).symm⟩
theorem lp_raw {p h : Nat} {os : List Od} {q : Nat × Nat} {l : List (Nat × Nat)} (e : lpOf p h os q = some l) : rawOf p h os q = some l := by
  unfold lpOf at e
  unfold rawOf
  split at e
  · rename_i h2
    rw [h2]
    exact e
  · cases e
theorem lp_cyc {p h : Nat} {os : List Od} {q : Nat × Nat} {l : List (Nat × Nat)} (ok : NetOk p h os) (hh : q.1 < h) (e : lpOf p h os q = some l) : Cyc p os l ∧ (∀ x ∈ l, x.1 < h) ∧ ∃ xs, l = plc p q :: xs := by
  obtain ⟨c, hx, m, s, b, e1, e2, _, hb, hd⟩ := raw_cycF ok hh (lp_raw e)
  refine ⟨c, hx, ?_⟩
  obtain ⟨x, xs, rfl⟩ := c.cons
  refine ⟨xs, ?_⟩
  obtain ⟨t, ht, rfl⟩ := hd x xs rfl
  unfold lpOf at e
  rw [e1] at e
  have b0 : b = 0 := by
    cases b with
    | zero => rfl
    | succ n => cases e
  subst b0
  have : (way p os (h * p + 1) q)[0]? = some q := by
    rw [show way p os (h * p + 1) q = rest p os (h * p + 1) (some q) from rfl, rest_succ]
    rfl
  rcases folR_cases ok hh with ⟨l', e', _⟩ | ⟨m', s', b', t', k, e', hl, _⟩
  · rw [e1] at e'
    cases e'
  · rw [e1] at e'
    have e5 := (Prod.mk.inj e').1
    have h0 := hl 0 (Nat.zero_le _)
    rw [← e5, List.getElem?_append_left hb, ht] at h0
    obtain rfl : t = q := Option.some.inj h0
    rfl
/-- a letter that is posted on a loop comes back to its first stop -/
theorem cyc_lp {p h n : Nat} {os : List Od} {l : List (Nat × Nat)} {f : Nat → Nat × Nat} (ok : NetOk p h os) (c : CycF p os l f n) (hq : (f 0).1 < h) : lpOf p h os (f 0) = some l ∧ (folR p h os (f 0)).2 = some 0 := by
  have st : ∀ i, ∃ s, stp p os i (f 0) = some s ∧ plc p s = f i := fun i => by
    have h1 := c.steps 0 i
    rw [Nat.zero_add] at h1
    exact Option.map_eq_some_iff.mp h1
  rcases folR_cases ok hq with ⟨l', _, _, hl, _⟩ | ⟨m, s, b, t, k, e', hl, hb, hs, hk, nd⟩
  · obtain ⟨s, h1, _⟩ := st l'.length
    rw [← hl, List.getElem?_eq_none (Nat.le_refl _)] at h1
    cases h1
  · have hbl : b < m.length := (List.getElem?_eq_some_iff.mp hb).1
    have n0 := c.n0
    have hmf : m.map (plc p) = (List.range m.length).map f := by
      refine List.ext_getElem? fun i => ?_
      rw [List.getElem?_map, List.getElem?_map]
      by_cases hi : i < m.length
      · have a := hl i (Nat.le_of_lt hi)
        rw [List.getElem?_append_left hi] at a
        obtain ⟨s', h1, h2⟩ := st i
        rw [a, h1, List.getElem?_range hi]
        show some (plc p s') = some (f i)
        rw [h2]
      · rw [List.getElem?_eq_none (by omega), List.getElem?_eq_none (by rw [List.length_range]; omega)]
        rfl
    have fs : f m.length = f b := by
      have a := hl m.length (Nat.le_refl _)
      rw [List.getElem?_append_right (Nat.le_refl _), Nat.sub_self] at a
      obtain ⟨s', h1, h2⟩ := st m.length
      have e1 : s = s' := Option.some.inj (a.trans h1)
      have a2 := hl b (Nat.le_of_lt hbl)
      rw [List.getElem?_append_left hbl, hb] at a2
      obtain ⟨t', h3, h4⟩ := st b
      have e2 : t = t' := Option.some.inj (a2.trans h3)
      rw [← h2, ← h4, ← e1, ← e2, hs, plc_shf]
    have hle : m.length ≤ n := by
      refine Nat.le_of_not_lt fun lt => ?_
      have a1 : (m.map (plc p))[n]? = some (f n) := by rw [hmf, List.getElem?_map, List.getElem?_range lt]; rfl
      have a2 : (m.map (plc p))[0]? = some (f 0) := by rw [hmf, List.getElem?_map, List.getElem?_range (by omega)]; rfl
      have p0 := c.per 0
      rw [Nat.zero_add] at p0
      rw [p0] at a1
      have := (List.getElem?_inj (by rw [List.length_map]; exact lt) nd).mp (a1.trans a2.symm)
      omega
    have hln : m.length = n := by
      refine Nat.le_antisymm hle (Nat.le_of_not_lt fun lt => ?_)
      have := c.inj lt (by omega) fs
      omega
    have b0 : b = 0 := by
      have p0 := c.per 0
      rw [Nat.zero_add, ← hln] at p0
      rw [p0] at fs
      exact (c.inj n0 (by omega) fs).symm
    subst b0
    unfold lpOf
    rw [e']
    refine ⟨?_, rfl⟩
    show some ((m ++ [s]).dropLast.map (plc p)) = _
    rw [List.dropLast_concat, hmf, hln, ← c.eq]
/-- the loop's turn that begins with its least stop -/
def canon (p h : Nat) (os : List Od) (l : List (Nat × Nat)) : List (Nat × Nat) := (lpOf p h os (minS (l.headD (0, 0)) l.tail)).getD []
theorem CycF.turns {p n : Nat} {os : List Od} {l : List (Nat × Nat)} {f : Nat → Nat × Nat} (c : CycF p os l f n) : ∀ i, ∃ l', CycF p os l' (fun j => f (i + j)) n ∧ ∀ x, x ∈ l' ↔ x ∈ l
  | 0 => ⟨l, by simpa using c, fun _ => Iff.rfl⟩
  | i + 1 => by
    obtain ⟨l', c', h'⟩ := c.turns i
    refine ⟨_, ?_, fun x => turn_mem.trans (h' x)⟩
    have := c'.turn
    have e : (fun j => f (i + (j + 1))) = fun j => f (i + 1 + j) := funext fun j => by rw [show i + (j + 1) = i + 1 + j by omega]
    rw [e] at this
    exact this
theorem canon_spec {p h : Nat} {os : List Od} {l : List (Nat × Nat)} (ok : NetOk p h os) (c : Cyc p os l) (hl : ∀ x ∈ l, x.1 < h) :
    Cyc p os (canon p h os l) ∧ hm (canon p h os l) = true ∧ (∀ x, x ∈ canon p h os l ↔ x ∈ l) ∧ ∃ q xs, canon p h os l = q :: xs ∧ lpOf p h os q = some (canon p h os l) ∧ plc p q = q ∧ q.1 < h := by
  obtain ⟨x, xs, rfl⟩ := c.cons
  obtain ⟨f, n, c⟩ := c
  obtain ⟨h1, h2⟩ := minS_spec xs x
  obtain ⟨i, ei⟩ := c.mem.mp h1
  obtain ⟨l', c', hm'⟩ := c.turns i
  have hq : (f (i + 0)).1 < h := by
    rw [Nat.add_zero, ← ei]
    exact hl _ h1
  obtain ⟨g1, _⟩ := cyc_lp ok c' hq
  have ec : canon p h os (x :: xs) = l' := by
    show (lpOf p h os (minS x xs)).getD [] = l'
    rw [ei]
    show (lpOf p h os (f i)).getD [] = l'
    rw [show f i = f (i + 0) from rfl, g1]
    rfl
  rw [ec]
  have h0 : l'[0]? = some (f (i + 0)) := c'.get c'.n0
  obtain ⟨y, ys, rfl⟩ := Cyc.cons ⟨_, _, c'⟩
  obtain rfl : y = f (i + 0) := Option.some.inj h0
  refine ⟨⟨_, _, c'⟩, hm_iff.mpr fun z hz => ?_, hm', _, _, rfl, g1, c.place _, hq⟩
  show ltS z (f i) = false
  rw [← ei]
  exact h2 z ((hm' z).mp hz)
theorem canon_eq {p h : Nat} {os : List Od} {l l' : List (Nat × Nat)} (ok : NetOk p h os) (c : Cyc p os l) (hl : ∀ x ∈ l, x.1 < h) (c' : Cyc p os l') (hm' : hm l' = true) {x : Nat × Nat} (hx : x ∈ l) (hx' : x ∈ l') : canon p h os l = l' := by
  obtain ⟨a1, a2, a3, _⟩ := canon_spec ok c hl
  exact a1.uniq c' a2 hm' ((a3 x).mpr hx) hx'
/-- all letters of a period -/
def lets (p h : Nat) : List (Nat × Nat) := (List.range h).flatMap fun a => (List.range p).map fun d => (a, d)
theorem mem_lets {p h : Nat} {q : Nat × Nat} : q ∈ lets p h ↔ q.1 < h ∧ q.2 < p := by
  unfold lets
  rw [List.mem_flatMap]
  constructor
  · rintro ⟨a, ha, hq⟩
    obtain ⟨d, hd, rfl⟩ := List.mem_map.mp hq
    exact ⟨List.mem_range.mp ha, List.mem_range.mp hd⟩
  · rintro ⟨h1, h2⟩
    exact ⟨q.1, List.mem_range.mpr h1, List.mem_map.mpr ⟨q.2, List.mem_range.mpr h2, rfl⟩⟩
theorem lets_pw {p h : Nat} : (lets p h).Pairwise fun a b => ltS a b = true := by
  unfold lets
  rw [List.pairwise_flatMap]
  refine ⟨fun a _ => ?_, ?_⟩
  · rw [List.pairwise_map]
    exact List.pairwise_lt_range.imp (R := fun x y => x < y) (S := fun d e => ltS (a, d) (a, e) = true) fun {d e} q => ltS_iff.mpr (.inr ⟨rfl, q⟩)
  · refine List.pairwise_lt_range.imp fun {a b} q => ?_
    intro x hx y hy
    obtain ⟨_, _, rfl⟩ := List.mem_map.mp hx
    obtain ⟨_, _, rfl⟩ := List.mem_map.mp hy
    exact ltS_iff.mpr (.inl q)
theorem lets_plc {p h : Nat} {q : Nat × Nat} (hq : q ∈ lets p h) : plc p q = q := by
  obtain ⟨_, h2⟩ := mem_lets.mp hq
  unfold plc
  rw [Nat.mod_eq_of_lt h2]
theorem lets_len {p h : Nat} : (lets p h).length = h * p := by
  unfold lets
  rw [List.length_flatMap]
  simp only [List.length_map, List.length_range]
  induction h with
  | zero => simp
  | succ h ih => rw [List.range_succ, List.map_append, List.sum_append, ih, Nat.succ_mul]; simp
/-- the loop that a letter's least stop begins -/
def goodL (p h : Nat) (os : List Od) (q : Nat × Nat) : Option (List (Nat × Nat)) := match lpOf p h os q with
  | some l => if hm l = true then some l else none
  | none => none
def loopsN (p h : Nat) (os : List Od) : List (List (Nat × Nat)) := (lets p h).filterMap (goodL p h os)
theorem goodL_some {p h : Nat} {os : List Od} {q : Nat × Nat} {l : List (Nat × Nat)} (e : goodL p h os q = some l) : lpOf p h os q = some l ∧ hm l = true := by
  unfold goodL at e
  split at e
  · rename_i l' e'
    split at e
    · rename_i hm'
      obtain rfl := Option.some.inj e
      exact ⟨e', hm'⟩
    · cases e
  · cases e
theorem goodL_of {p h : Nat} {os : List Od} {q : Nat × Nat} {l : List (Nat × Nat)} (e : lpOf p h os q = some l) (hm' : hm l = true) : goodL p h os q = some l := by
  unfold goodL
  rw [e]
  exact if_pos hm'
theorem mem_loopsN {p h : Nat} {os : List Od} (ok : NetOk p h os) {l : List (Nat × Nat)} : l ∈ loopsN p h os ↔ Cyc p os l ∧ hm l = true ∧ ∀ x ∈ l, x.1 < h := by
  unfold loopsN
  rw [List.mem_filterMap]
  constructor
  · rintro ⟨q, hq, e⟩
    obtain ⟨e1, e2⟩ := goodL_some e
    obtain ⟨c, hx, _⟩ := lp_cyc ok (mem_lets.mp hq).1 e1
    exact ⟨c, e2, hx⟩
  · rintro ⟨⟨f, n, c⟩, hm', hx⟩
    have h0 : f 0 ∈ l := c.mem.mpr ⟨0, rfl⟩
    have hp : (f 0).2 < p := by
      have := c.place 0
      have e : (f 0).2 % p = (f 0).2 := congrArg Prod.snd this
      rw [← e]
      exact Nat.mod_lt _ ok.p1
    exact ⟨f 0, mem_lets.mpr ⟨hx _ h0, hp⟩, goodL_of (cyc_lp ok c (hx _ h0)).1 hm'⟩
theorem loopsN_pw {p h : Nat} {os : List Od} (ok : NetOk p h os) : (loopsN p h os).Pairwise fun a b => ltS (a.headD (0, 0)) (b.headD (0, 0)) = true := by
  unfold loopsN
  rw [List.pairwise_filterMap]
  refine List.Pairwise.imp_of_mem ?_ (lets_pw (p := p) (h := h))
  intro a b ha hb q l el l' el'
  obtain ⟨_, _, xs, rfl⟩ := lp_cyc ok (mem_lets.mp ha).1 (goodL_some el).1
  obtain ⟨_, _, ys, rfl⟩ := lp_cyc ok (mem_lets.mp hb).1 (goodL_some el').1
  show ltS (plc p a) (plc p b) = true
  rw [lets_plc ha, lets_plc hb]
  exact q
theorem loopsN_nd {p h : Nat} {os : List Od} (ok : NetOk p h os) : (loopsN p h os).Nodup := (loopsN_pw ok).imp fun {a b} q e => by
  subst e
  have := ltS_iff.mp q
  omega
/-- what the law finds, letter by letter -/
def fndF (p h : Nat) (os : List Od) (acc : List (List (Nat × Nat))) (q : Nat × Nat) : List (List (Nat × Nat)) := match rawOf p h os q with
  | none => acc
  | some l => if canon p h os l ∈ acc then acc else acc ++ [canon p h os l]
def fnd (p h : Nat) (os : List Od) (qs : List (Nat × Nat)) : List (List (Nat × Nat)) := qs.foldl (fndF p h os) []
theorem fnd_snoc {p h : Nat} {os : List Od} {qs : List (Nat × Nat)} {q : Nat × Nat} : fnd p h os (qs ++ [q]) = fndF p h os (fnd p h os qs) q := by
  unfold fnd
  rw [List.foldl_append]
  rfl
theorem fndF_mem {p h : Nat} {os : List Od} {acc : List (List (Nat × Nat))} {q : Nat × Nat} {l : List (Nat × Nat)} : l ∈ fndF p h os acc q ↔ l ∈ acc ∨ ∃ r, rawOf p h os q = some r ∧ canon p h os r = l := by
  unfold fndF
  cases e : rawOf p h os q with
  | none => simp
  | some r =>
    show l ∈ (if canon p h os r ∈ acc then acc else acc ++ [canon p h os r]) ↔ _
    split
    · rename_i hm'
      constructor
      · exact .inl
      · rintro (a | ⟨r', e', rfl⟩)
        · exact a
        · cases e'
          exact hm'
    · rw [List.mem_append, List.mem_singleton]
      constructor
      · rintro (a | a)
        · exact .inl a
        · exact .inr ⟨r, rfl, a.symm⟩
      · rintro (a | ⟨r', e', a⟩)
        · exact .inl a
        · cases e'
          exact .inr a.symm
theorem fndF_nd {p h : Nat} {os : List Od} {acc : List (List (Nat × Nat))} {q : Nat × Nat} (nd : acc.Nodup) : (fndF p h os acc q).Nodup := by
  unfold fndF
  split
  · exact nd
  · rename_i r _
    split
    · exact nd
    · rename_i hno
      rw [List.nodup_append]
      refine ⟨nd, List.nodup_cons.mpr ⟨by simp, List.nodup_nil⟩, fun a ha b hb e => ?_⟩
      rw [List.mem_singleton.mp hb] at e
      exact hno (e ▸ ha)
theorem fnd_spec {p h : Nat} {os : List Od} (qs : List (Nat × Nat)) : ∀ acc : List (List (Nat × Nat)), acc.Nodup → (qs.foldl (fndF p h os) acc).Nodup ∧ ∀ l, l ∈ qs.foldl (fndF p h os) acc ↔ l ∈ acc ∨ ∃ q ∈ qs, ∃ r, rawOf p h os q = some r ∧ canon p h os r = l := by
  induction qs with
  | nil => exact fun acc nd => ⟨nd, fun l => by simp⟩
  | cons q qs ih =>
    intro acc nd
    obtain ⟨h1, h2⟩ := ih (fndF p h os acc q) (fndF_nd nd)
    refine ⟨h1, fun l => ?_⟩
    rw [List.foldl_cons, h2, fndF_mem]
    constructor
    · rintro ((a | a) | ⟨q', hq', a⟩)
      · exact .inl a
      · exact .inr ⟨q, List.mem_cons_self, a⟩
      · exact .inr ⟨q', List.mem_cons_of_mem _ hq', a⟩
    · rintro (a | ⟨q', hq', a⟩)
      · exact .inl (.inl a)
      · rcases List.mem_cons.mp hq' with rfl | z
        · exact .inl (.inr a)
        · exact .inr ⟨q', z, a⟩
theorem fnd_perm {p h : Nat} {os : List Od} (ok : NetOk p h os) : (fnd p h os (lets p h)).Perm (loopsN p h os) := by
  obtain ⟨h1, h2⟩ := fnd_spec (p := p) (h := h) (os := os) (lets p h) [] List.nodup_nil
  refine (List.perm_ext_iff_of_nodup h1 (loopsN_nd ok)).mpr fun l => ?_
  rw [h2]
  constructor
  · rintro (a | ⟨q, hq, r, e, rfl⟩)
    · cases a
    · obtain ⟨c, hx, _⟩ := raw_cycF ok (mem_lets.mp hq).1 e
      obtain ⟨a1, a2, a3, _⟩ := canon_spec ok c hx
      exact (mem_loopsN ok).mpr ⟨a1, a2, fun x hx' => hx x ((a3 x).mp hx')⟩
  · intro hl
    obtain ⟨c, hm', hx⟩ := (mem_loopsN ok).mp hl
    obtain ⟨q, hq, e⟩ := List.mem_filterMap.mp hl
    obtain ⟨x, xs, rfl⟩ := c.cons
    exact .inr ⟨q, hq, _, lp_raw (goodL_some e).1, canon_eq ok c hx c hm' List.mem_cons_self List.mem_cons_self⟩
/-- loops that share a stop are one -/
theorem loopsN_share {p h : Nat} {os : List Od} (ok : NetOk p h os) {l l' : List (Nat × Nat)} {x : Nat × Nat} (hl : l ∈ loopsN p h os) (hl' : l' ∈ loopsN p h os) (hx : x ∈ l) (hx' : x ∈ l') : l = l' := by
  obtain ⟨c, m1, _⟩ := (mem_loopsN ok).mp hl
  obtain ⟨c', m2, _⟩ := (mem_loopsN ok).mp hl'
  exact c.uniq c' m1 m2 hx hx'
/-! ### pairs as data: their order and their least -/
section
open PySem.W (alike alikeAll dataLt minD AlikeAll)
theorem plD_alike (s t : Nat × Nat) : alike (plD s) (plD t) = true := by
  simp [plD, alike, alikeAll]
theorem plDs_alike (l : List (Nat × Nat)) : AlikeAll (l.map plD) := by
  refine ⟨fun x hx y hy => ?_, fun x hx => ?_⟩
  · obtain ⟨s, _, rfl⟩ := List.mem_map.mp hx
    obtain ⟨t, _, rfl⟩ := List.mem_map.mp hy
    exact plD_alike s t
  · obtain ⟨s, _, rfl⟩ := List.mem_map.mp hx
    intro e
    cases e
theorem int_eqv (a b : Int) : PyData.eqv (.int a) (.int b) = decide (a = b) := by
  by_cases h : a = b <;> simp [PyData.eqv, h]
theorem dataLt_pl (s t : Nat × Nat) : dataLt (plD s) (plD t) = ltS s t := by
  unfold plD ltS
  rw [PySem.W.dataLt_tuple]
  by_cases e1 : s.1 = t.1
  · rw [if_pos e1, PySem.W.dataLt_all_yes (by simp [alike]) (by rw [int_eqv, e1]; exact decide_eq_true rfl)]
    by_cases e2 : s.2 = t.2
    · rw [PySem.W.dataLt_all_yes (by simp [alike]) (by rw [int_eqv, e2]; exact decide_eq_true rfl), e2, decide_eq_false (Nat.lt_irrefl _)]
      simp [PySem.W.keyToksAll, PyProof.Rows.lexLt]
      rfl
    · rw [PySem.W.dataLt_all_no (by simp [alike]) (by rw [int_eqv]; exact decide_eq_false (by omega)), PySem.W.dataLt_int]
      by_cases c : s.2 < t.2
      · rw [decide_eq_true c, decide_eq_true (by omega)]
      · rw [decide_eq_false c, decide_eq_false (by omega)]
  · rw [if_neg e1, PySem.W.dataLt_all_no (by simp [alike]) (by rw [int_eqv]; exact decide_eq_false (by omega)), PySem.W.dataLt_int]
    by_cases c : s.1 < t.1
    · rw [decide_eq_true c, decide_eq_true (by omega)]
    · rw [decide_eq_false c, decide_eq_false (by omega)]
theorem minD_pl : ∀ (xs : List (Nat × Nat)) (x : Nat × Nat), minD (plD x) (xs.map plD) = plD (minS x xs)
  | [], x => rfl
  | y :: ys, x => by
    show minD (if dataLt (plD y) (plD x) = true then plD y else plD x) (ys.map plD) = plD (minS (if ltS y x then y else x) ys)
    rw [dataLt_pl]
    by_cases c : ltS y x = true
    · rw [if_pos c, if_pos c]
      exact minD_pl ys y
    · rw [if_neg c, if_neg c]
      exact minD_pl ys x
theorem plD_inj {s t : Nat × Nat} (e : plD s = plD t) : s = t := by
  have h := plD_eqv s t
  rw [← e] at h
  rw [PySem.SeqAt.eqv_refl _ (PySem.SeqAt.canLay_of_shaped (plD_shaped s))] at h
  exact of_decide_eq_true h.symm
/-- min of a list of stops -/
theorem min_depth (x : Nat × Nat) (xs : List (Nat × Nat)) : PyData.depthAll (plD x :: xs.map plD) ≤ 60 := by
  have := plDs_depth (x :: xs)
  rw [List.map_cons] at this
  omega
theorem min_at {H : Hp} {ws : List V} {x : Nat × Nat} {xs : List (Nat × Nat)} {i : Nat} {v : V} (hw : Paired (StopAt H) ws (x :: xs)) (hi : ws[i]? = some v) (he : (plD x :: xs.map plD)[i]? = some (minD (plD x) (xs.map plD))) : StopAt H v (minS x xs) := by
  have hil : i < (x :: xs).length := by rw [← hw.length]; exact (List.getElem?_eq_some_iff.mp hi).1
  obtain ⟨v', hv', hs⟩ := Paired.get? (i := i) hw (List.getElem?_eq_getElem hil)
  obtain rfl : v' = v := Option.some.inj (hv'.symm.trans hi)
  have e2 : ((x :: xs).map plD)[i]? = some (plD (x :: xs)[i]) := by rw [List.getElem?_map, List.getElem?_eq_getElem hil]; rfl
  rw [List.map_cons, he, minD_pl] at e2
  rw [plD_inj (Option.some.inj e2)]
  exact hs
end
/-! ### where letters are delivered: plain mathematics -/
def dst (p h : Nat) (os : List Od) (st : Nat × Nat) : Option (Nat × Nat) := destOf (folR p h os st)
theorem stp_none_add {p : Nat} {os : List Od} {i : Nat} {st : Nat × Nat} (e : stp p os i st = none) (k : Nat) : stp p os (i + k) st = none := by
  rw [stp_add, e]
  rfl
theorem stp_succ_none {p : Nat} {os : List Od} {j : Nat} {st c : Nat × Nat} (h1 : stp p os j st = some c) (h2 : hop p os c = none) : stp p os (j + 1) st = none := by
  show (stp p os j st).bind (hop p os) = none
  rw [h1]
  exact h2
theorem dst_iff {p h : Nat} {os : List Od} {st c : Nat × Nat} (ok : NetOk p h os) (hh : st.1 < h) : dst p h os st = some c ↔ ∃ j, stp p os j st = some c ∧ hop p os c = none := by
  unfold dst
  rcases folR_cases ok hh with ⟨l, e, hne, hl, _⟩ | ⟨m, s, b, t, k, e, hl, hb, hs, hk, _⟩
  · rw [e]
    show l.getLast? = some c ↔ _
    have hlen : 0 < l.length := List.length_pos_iff.mpr hne
    have hend : stp p os l.length st = none := by
      rw [← hl]
      exact List.getElem?_eq_none_iff.mpr (Nat.le_refl _)
    have hlast : l.getLast? = stp p os (l.length - 1) st := by rw [← hl, List.getLast?_eq_getElem?]
    rw [hlast]
    constructor
    · intro h1
      refine ⟨_, h1, ?_⟩
      have e2 : (stp p os (l.length - 1) st).bind (hop p os) = none := by
        have e1 : stp p os (l.length - 1 + 1) st = none := by rw [Nat.sub_add_cancel hlen]; exact hend
        exact e1
      rw [h1] at e2
      exact e2
    · rintro ⟨j, h1, h2⟩
      have e3 := stp_succ_none h1 h2
      have hj : j < l.length := by
        rcases Nat.lt_or_ge j l.length with z | z
        · exact z
        · have := stp_none_add hend (j - l.length)
          rw [show l.length + (j - l.length) = j by omega, h1] at this
          cases this
      have hj2 : ¬ j + 1 < l.length := fun z => by
        have := hl (j + 1)
        rw [e3, List.getElem?_eq_getElem z] at this
        cases this
      rw [show l.length - 1 = j by omega]
      exact h1
  · rw [e]
    show (none : Option (Nat × Nat)) = some c ↔ _
    constructor
    · intro z
      cases z
    · rintro ⟨j, h1, h2⟩
      exfalso
      have hbl : b < m.length := (List.getElem?_eq_some_iff.mp hb).1
      have g1 : stp p os b st = some t := by
        rw [← hl b (Nat.le_of_lt hbl), List.getElem?_append_left hbl]
        exact hb
      have g2 : stp p os (b + (m.length - b)) st = some (shf (p * k) t) := by
        rw [show b + (m.length - b) = m.length by omega, ← hl _ (Nat.le_refl _), List.getElem?_append_right (Nat.le_refl _), Nat.sub_self, hs]
        rfl
      have hr := stp_round (N := m.length - b) (k0 := k) rfl g1 g2 (j + 1) 0
      have n1 : 1 ≤ m.length - b := by omega
      have n2 : 1 * (j + 1) ≤ (m.length - b) * (j + 1) := Nat.mul_le_mul_right _ n1
      have e3 := stp_none_add (stp_succ_none h1 h2) (b + 0 + (m.length - b) * (j + 1) - (j + 1))
      rw [show j + 1 + (b + 0 + (m.length - b) * (j + 1) - (j + 1)) = b + 0 + (m.length - b) * (j + 1) by omega, hr, show stp p os (b + 0) st = some t from g1] at e3
      cases e3
theorem dst_end {p h : Nat} {os : List Od} {st : Nat × Nat} (ok : NetOk p h os) (hh : st.1 < h) (e : hop p os st = none) : dst p h os st = some st := (dst_iff ok hh).mpr ⟨0, rfl, e⟩
theorem dst_stp {p h : Nat} {os : List Od} {st s : Nat × Nat} {i : Nat} (ok : NetOk p h os) (hh : st.1 < h) (e : stp p os i st = some s) : dst p h os st = dst p h os s := by
  have hs := pst_house ok hh i e
  apply Option.ext
  intro c
  rw [dst_iff ok hh, dst_iff ok hs]
  constructor
  · rintro ⟨j, h1, h2⟩
    by_cases z : i ≤ j
    · refine ⟨j - i, ?_, h2⟩
      rw [show j = i + (j - i) by omega, stp_add, e] at h1
      exact h1
    · have e3 := stp_none_add (stp_succ_none h1 h2) (i - (j + 1))
      rw [show j + 1 + (i - (j + 1)) = i by omega, e] at e3
      cases e3
  · rintro ⟨j, h1, h2⟩
    refine ⟨i + j, ?_, h2⟩
    rw [stp_add, e]
    exact h1
theorem hop_shf_none {p : Nat} {os : List Od} {k : Nat} {s : Nat × Nat} : hop p os (shf (p * k) s) = none ↔ hop p os s = none := by
  rw [hop_shf, Option.map_eq_none_iff]
theorem dst_shf {p h : Nat} {os : List Od} {st : Nat × Nat} {k : Nat} (ok : NetOk p h os) (hh : st.1 < h) : dst p h os (shf (p * k) st) = (dst p h os st).map (shf (p * k)) := by
  apply Option.ext
  intro c
  rw [dst_iff ok (show (shf (p * k) st).1 < h from hh), Option.map_eq_some_iff]
  constructor
  · rintro ⟨j, h1, h2⟩
    rw [stp_shf] at h1
    obtain ⟨c', h3, rfl⟩ := Option.map_eq_some_iff.mp h1
    exact ⟨c', (dst_iff ok hh).mpr ⟨j, h3, hop_shf_none.mp h2⟩, rfl⟩
  · rintro ⟨c', h1, rfl⟩
    obtain ⟨j, h3, h4⟩ := (dst_iff ok hh).mp h1
    exact ⟨j, by rw [stp_shf, h3]; rfl, hop_shf_none.mpr h4⟩
theorem dst_cycle {p h : Nat} {os : List Od} {st : Nat × Nat} {i k : Nat} (ok : NetOk p h os) (hh : st.1 < h) (e : stp p os i st = some (shf (p * k) st)) (hk : 0 < p * k) : dst p h os st = none := by
  have h1 := dst_stp ok hh e
  rw [dst_shf ok hh] at h1
  cases q : dst p h os st with
  | none => rfl
  | some c =>
    rw [q] at h1
    have h2 : c.2 = c.2 + p * k := congrArg Prod.snd (Option.some.inj h1)
    omega
theorem dst_le {p h : Nat} {os : List Od} {st c : Nat × Nat} (ok : NetOk p h os) (hh : st.1 < h) (e : dst p h os st = some c) : st.2 ≤ c.2 := by
  obtain ⟨j, h1, _⟩ := (dst_iff ok hh).mp e
  cases j with
  | zero =>
    cases h1
    exact Nat.le_refl _
  | succ j => exact Nat.le_of_lt (stp_more (i := 0) (k := j) ok rfl (by rw [Nat.zero_add]; exact h1))
theorem dst_house {p h : Nat} {os : List Od} {st c : Nat × Nat} (ok : NetOk p h os) (hh : st.1 < h) (e : dst p h os st = some c) : c.1 < h := by
  obtain ⟨j, h1, _⟩ := (dst_iff ok hh).mp e
  exact pst_house ok hh j h1
theorem dst_plc {p h : Nat} {os : List Od} {st : Nat × Nat} (ok : NetOk p h os) (hh : st.1 < h) : dst p h os st = (dst p h os (plc p st)).map (shf (p * (st.2 / p))) := by
  rw [← dst_shf ok (show (plc p st).1 < h from hh), ← shf_plc]
/-- the goal of a letter, and how many days it takes -/
def wayOf (p h : Nat) (os : List Od) (s : Nat × Nat) : Option (Nat × Nat) := (dst p h os s).map fun g => (g.1, g.2 - s.2)
theorem wayOf_dst {p h : Nat} {os : List Od} {s : Nat × Nat} (ok : NetOk p h os) (hh : s.1 < h) : dst p h os s = (wayOf p h os s).map fun g => (g.1, s.2 + g.2) := by
  unfold wayOf
  rw [Option.map_map]
  cases q : dst p h os s with
  | none => rfl
  | some c =>
    have := dst_le ok hh q
    show some c = some (c.1, s.2 + (c.2 - s.2))
    rw [show s.2 + (c.2 - s.2) = c.2 by omega]
theorem wayOf_plc {p h : Nat} {os : List Od} {s : Nat × Nat} (ok : NetOk p h os) (hh : s.1 < h) : wayOf p h os (plc p s) = wayOf p h os s := by
  unfold wayOf
  rw [dst_plc ok hh, Option.map_map]
  cases q : dst p h os (plc p s) with
  | none => rfl
  | some c =>
    show some (c.1, c.2 - s.2 % p) = some (c.1, c.2 + p * (s.2 / p) - s.2)
    have := Nat.div_add_mod s.2 p
    rw [show c.2 + p * (s.2 / p) - s.2 = c.2 - s.2 % p by omega]
theorem dst_way {p h : Nat} {os : List Od} {s : Nat × Nat} (ok : NetOk p h os) (hh : s.1 < h) : dst p h os s = (wayOf p h os (plc p s)).map fun g => (g.1, s.2 + g.2) := by
  rw [wayOf_plc ok hh]
  exact wayOf_dst ok hh
/-- the table of ways: keys and values -/
def wkv (p : Nat) (ks : List (Nat × Nat)) (f : Nat × Nat → V) : List (List Key × V) := ks.map fun s => (keyOf p s, f s)
def setF (f : Nat × Nat → V) (q : Nat × Nat) (v : V) : Nat × Nat → V := fun s => if s = q then v else f s
theorem key_plc {p : Nat} {s : Nat × Nat} : keyOf p (plc p s) = keyOf p s := keyOf_eq.mpr (plc_plc s)
theorem key_at {p : Nat} {q s : Nat × Nat} (hq : plc p q = q) : keyOf p q = keyOf p s ↔ q = plc p s := by
  rw [keyOf_eq, hq]
theorem wkv_val {p : Nat} {f : Nat × Nat → V} {s : Nat × Nat} : ∀ {ks : List (Nat × Nat)}, (∀ q ∈ ks, plc p q = q) → valV (wkv p ks f) (keyOf p s) = if plc p s ∈ ks then some (f (plc p s)) else none
  | [], _ => rfl
  | q :: ks, h => by
    have hq := h q List.mem_cons_self
    have ih := wkv_val (p := p) (f := f) (s := s) fun r hr => h r (List.mem_cons_of_mem _ hr)
    by_cases c : q = plc p s
    · rw [if_pos (by rw [c]; exact List.mem_cons_self)]
      show valV ((keyOf p q, f q) :: wkv p ks f) (keyOf p s) = _
      rw [valV_pos ((key_at hq).mpr c), c]
    · show valV ((keyOf p q, f q) :: wkv p ks f) (keyOf p s) = _
      rw [valV_neg fun z => c ((key_at hq).mp z), ih]
      by_cases m : plc p s ∈ ks
      · rw [if_pos m, if_pos (List.mem_cons_of_mem _ m)]
      · rw [if_neg m, if_neg fun z => (List.mem_cons.mp z).elim (fun e => c e.symm) m]
theorem wkv_ext {p : Nat} {f g : Nat × Nat → V} {ks : List (Nat × Nat)} (h : ∀ q ∈ ks, f q = g q) : wkv p ks f = wkv p ks g := by
  unfold wkv
  exact List.map_congr_left fun q hq => by rw [h q hq]
theorem wkv_new {p : Nat} {f : Nat × Nat → V} {s : Nat × Nat} {v : V} {ks : List (Nat × Nat)} (h : ∀ q ∈ ks, plc p q = q) (hn : plc p s ∉ ks) : putK (wkv p ks f) (keyOf p s) v = wkv p (ks ++ [plc p s]) (setF f (plc p s) v) := by
  rw [Cp.putK_new (by rw [wkv_val h, if_neg hn])]
  show _ = wkv p (ks ++ [plc p s]) _
  unfold wkv
  rw [List.map_append]
  congr 1
  · exact List.map_congr_left fun q hq => by
      show (keyOf p q, f q) = (keyOf p q, if q = plc p s then v else f q)
      rw [if_neg fun e : q = plc p s => hn (e ▸ hq)]
  · show [(keyOf p s, v)] = [(keyOf p (plc p s), setF f (plc p s) v (plc p s))]
    unfold setF
    rw [if_pos rfl, key_plc]
theorem wkv_old {p : Nat} {f : Nat × Nat → V} {s : Nat × Nat} {v : V} {ks : List (Nat × Nat)} (h : ∀ q ∈ ks, plc p q = q) (hn : plc p s ∈ ks) : putK (wkv p ks f) (keyOf p s) v = wkv p ks (setF f (plc p s) v) := by
  unfold putK
  have e : ((wkv p ks f).any fun kv => decide (kv.1 = keyOf p s)) = true := by
    rw [valV_any, wkv_val h, if_pos hn]
    rfl
  rw [if_pos e]
  unfold wkv
  rw [List.map_map]
  refine List.map_congr_left fun q hq => ?_
  show (if keyOf p q = keyOf p s then (keyOf p q, v) else (keyOf p q, f q)) = (keyOf p q, setF f (plc p s) v q)
  unfold setF
  by_cases c : q = plc p s
  · rw [if_pos ((key_at (h q hq)).mpr c), if_pos c]
  · rw [if_neg fun z => c ((key_at (h q hq)).mp z), if_neg c]
/-! ### comprehensions that choose from a range, or from a list of numbers -/
theorem take_filter {α : Type} {f : α → Bool} {l : List α} {i : Nat} {q : α} (e : l[i]? = some q) : (l.take (i + 1)).filter f = (l.take i).filter f ++ (if f q = true then [q] else []) := by
  rw [List.take_add_one, e, List.filter_append]
  by_cases c : f q = true <;> simp [c]
theorem nints_len {l : List Nat} : (nints l).length = l.length := by
  unfold nints
  rw [List.length_map]
theorem nints_app {l m : List Nat} : nints (l ++ m) = nints l ++ nints m := by
  unfold nints
  rw [List.map_append]
theorem nints_get {l : List Nat} {i : Nat} {v : V} (h : (nints l)[i]? = some v) : ∃ n, l[i]? = some n ∧ v = .int (n : Nat) := by
  unfold nints at h
  rw [List.getElem?_map, Option.map_eq_some_iff] at h
  obtain ⟨n, h1, h2⟩ := h
  exact ⟨n, h1, h2.symm⟩
theorem lc_rfilt {m : Int} {n v : Nat} {tt : TT} {σ : L2.St} {H1 : Hp} {D : Addr} {Qd : Hp → Prop} (f : Nat → Bool) (hm : m.toNat = n) (hn : n ≤ 1000)
    (hw : ∀ x, wipe ((wipe σ [v]).set v x) [v] = wipe σ [v]) (hv : ∀ x, ((wipe σ [v]).set v x)[v]? = some x)
    (ht : ∀ (i : Nat) l (Q : Bool → Hp → Prop), i < n → Q (f i) (upd H1 D (.lst l)) → tt ((wipe σ [v]).set v (some (.int (i : Nat)))) (upd H1 D (.lst l)) Q)
    (hd : Qd (upd H1 D (.lst (nints ((List.range n).filter f))))) :
    ∃ W : Nat → Nat → Hp → Prop, (∃ k, W 0 k (upd H1 D (.lst []))) ∧ ∀ i k H, W i k H →
      ((Itr 0 m.toNat).stop i H ∧ Qd H) ∨ ((Itr 0 m.toNat).go i H ∧ ∃ Nx : Hp → Prop, (∀ H', Nx H' → ∃ k', k' < k ∧ W (i + 1) k' H') ∧ ∀ x H', (Itr 0 m.toNat).yld i H x H' → gName v x (wipe σ [v]) H' fun σ2 H2 => wipe σ2 [v] = wipe σ [v] ∧ tt σ2 H2 fun b H3 =>
        if b = true then tVar v σ2 H3 fun y H4 => ∃ acc, H4 D = some (.lst acc) ∧ acc.length < sizeLine ∧ Nx (upd H4 D (.lst (acc ++ [y]))) else Nx H3) := by
  subst hm
  refine lc_range (lo := 0) (n := m.toNat) (fun i H' => H' = upd H1 D (.lst (nints ((List.range i).filter f)))) rfl ?_ (fun H' e => by rw [e]; exact hd)
  rintro i H' hi rfl
  rw [show (0 : Int) + (i : Int) = (i : Nat) from Int.zero_add _]
  refine ⟨hw _, ht i _ _ hi ?_⟩
  rw [filter_range_succ']
  by_cases c : f i = true
  · rw [c, if_pos rfl, if_pos rfl]
    refine ⟨_, hv _, _, upd_same, ?_, ?_⟩
    · rw [nints_len]
      exact small1000 (Nat.le_trans (List.length_filter_le _ _) (by rw [List.length_range]; omega))
    · rw [upd_upd, nints_app]
      rfl
  · rw [Bool.eq_false_iff.mpr c, if_neg Bool.false_ne_true, if_neg Bool.false_ne_true, List.append_nil]
theorem lc_lfilt {K : PySem.W.Frag} {a : Addr} {l : List Nat} {v : Nat} {tt : TT} {σ : L2.St} {H1 : Hp} {D : Addr} {Qd : Hp → Prop} (f : Nat → Bool) (hn : l.length ≤ 1000) (ha : H1 a = some (.lst (nints l))) (naD : a ≠ D)
    (hw : ∀ x, wipe ((wipe σ [v]).set v x) [v] = wipe σ [v]) (hv : ∀ x, ((wipe σ [v]).set v x)[v]? = some x)
    (ht : ∀ (i k : Nat) us (Q : Bool → Hp → Prop), l[i]? = some k → Q (f k) (upd H1 D (.lst us)) → tt ((wipe σ [v]).set v (some (.int (k : Nat)))) (upd H1 D (.lst us)) Q)
    (hd : Qd (upd H1 D (.lst (nints (l.filter f))))) :
    ∃ W : Nat → Nat → Hp → Prop, (∃ k, W 0 k (upd H1 D (.lst []))) ∧ ∀ i k H, W i k H →
      ((Itl K a).stop i H ∧ Qd H) ∨ ((Itl K a).go i H ∧ ∃ Nx : Hp → Prop, (∀ H', Nx H' → ∃ k', k' < k ∧ W (i + 1) k' H') ∧ ∀ x H', (Itl K a).yld i H x H' → gName v x (wipe σ [v]) H' fun σ2 H2 => wipe σ2 [v] = wipe σ [v] ∧ tt σ2 H2 fun b H3 =>
        if b = true then tVar v σ2 H3 fun y H4 => ∃ acc, H4 D = some (.lst acc) ∧ acc.length < sizeLine ∧ Nx (upd H4 D (.lst (acc ++ [y]))) else Nx H3) := by
  refine lc_list (K := K) (a := a) (xs := nints l) (fun i H' => H' = upd H1 D (.lst (nints ((l.take i).filter f)))) rfl (fun i H' _ e => by rw [e]; exact SqL.of ((upd_ne naD).trans ha)) ?_ (fun H' e => by
    rw [e, nints_len, List.take_of_length_le (Nat.le_refl _)]
    exact hd)
  rintro i x H' hi rfl
  obtain ⟨k, hk, rfl⟩ := nints_get hi
  refine ⟨hw _, ht i k _ _ hk ?_⟩
  have il := (List.getElem?_eq_some_iff.mp hk).1
  rw [take_filter hk]
  by_cases c : f k = true
  · rw [c, if_pos rfl, if_pos rfl]
    refine ⟨_, hv _, _, upd_same, ?_, ?_⟩
    · rw [nints_len]
      exact small1000 (Nat.le_trans (List.length_filter_le _ _) (by rw [List.length_take]; omega))
    · rw [upd_upd, nints_app]
      rfl
  · rw [Bool.eq_false_iff.mpr c, if_neg Bool.false_ne_true, if_neg Bool.false_ne_true, List.append_nil]
theorem lc_rfiltS {m : Int} {n v : Nat} {tt : TT} {σ : L2.St} {H1 : Hp} {D : Addr} {Qd : Hp → Prop} (f : Nat → Bool) (hm : m.toNat = n) (hn : n ≤ 1000) (nD : H1 D = none)
    (hw : ∀ x, wipe ((wipe σ [v]).set v x) [v] = wipe σ [v]) (hv : ∀ x, ((wipe σ [v]).set v x)[v]? = some x)
    (ht : ∀ (i : Nat) H2 (Q : Bool → Hp → Prop), i < n → Same H1 H2 → (∀ H3, Same H2 H3 → Q (f i) H3) → tt ((wipe σ [v]).set v (some (.int (i : Nat)))) H2 Q)
    (hd : ∀ H', Same H1 H' → H' D = some (.lst (nints ((List.range n).filter f))) → Qd H') :
    ∃ W : Nat → Nat → Hp → Prop, (∃ k, W 0 k (upd H1 D (.lst []))) ∧ ∀ i k H, W i k H →
      ((Itr 0 m.toNat).stop i H ∧ Qd H) ∨ ((Itr 0 m.toNat).go i H ∧ ∃ Nx : Hp → Prop, (∀ H', Nx H' → ∃ k', k' < k ∧ W (i + 1) k' H') ∧ ∀ x H', (Itr 0 m.toNat).yld i H x H' → gName v x (wipe σ [v]) H' fun σ2 H2 => wipe σ2 [v] = wipe σ [v] ∧ tt σ2 H2 fun b H3 =>
        if b = true then tVar v σ2 H3 fun y H4 => ∃ acc, H4 D = some (.lst acc) ∧ acc.length < sizeLine ∧ Nx (upd H4 D (.lst (acc ++ [y]))) else Nx H3) := by
  subst hm
  refine lc_range (lo := 0) (n := m.toNat) (fun i H' => Same H1 H' ∧ H' D = some (.lst (nints ((List.range i).filter f)))) ⟨same_upd nD, upd_same⟩ ?_ (fun H' e => hd H' e.1 e.2)
  rintro i H' hi ⟨s', hD⟩
  rw [show (0 : Int) + (i : Int) = (i : Nat) from Int.zero_add _]
  refine ⟨hw _, ht i _ _ hi s' fun H3 s3 => ?_⟩
  have hD3 := s3 _ _ hD
  rw [filter_range_succ']
  by_cases c : f i = true
  · rw [c, if_pos rfl, if_pos rfl]
    refine ⟨_, hv _, _, hD3, ?_, fun b o e => ?_, ?_⟩
    · rw [nints_len]
      exact small1000 (Nat.le_trans (List.length_filter_le _ _) (by rw [List.length_range]; omega))
    · rw [upd_ne (ne_of_none e nD)]
      exact s3 _ _ (s' _ _ e)
    · rw [upd_same, nints_app]
      rfl
  · rw [Bool.eq_false_iff.mpr c, if_neg Bool.false_ne_true, if_neg Bool.false_ne_true, List.append_nil]
    exact ⟨s'.trans s3, hD3⟩
/-! ### results and lists of stops as data -/
section
open PySem.W (alike alikeAll dataLt AllAlike Sortable dataLe)
theorem plD_depth (b : Nat × Nat) : (plD b).depth ≤ 60 := by
  have e : (plD b).depth = 1 := by simp [plD, PyData.depth, PyData.depthAll]
  omega
def optD : Option (Nat × Nat) → PyData
  | none => .none
  | some s => plD s
theorem opt_dp {K : PySem.W.Frag} {H : Hp} {v : V} {o : Option (Nat × Nat)} (h : OptStop H v o) : Dp K H v (optD o) := by
  cases o with
  | none =>
    obtain rfl : v = .non := h
    exact .non
  | some s => exact stop_dp h
theorem optD_shaped (o : Option (Nat × Nat)) : PySem.SeqAt.shaped (optD o) = true := by
  cases o with
  | none => rfl
  | some s => exact plD_shaped s
theorem optD_eqv (a b : Option (Nat × Nat)) : PyData.eqv (optD a) (optD b) = decide (a = b) := by
  cases a with
  | none =>
    cases b with
    | none => simp [optD, PyData.eqv]
    | some t => simp [optD, plD, PyData.eqv]
  | some s =>
    cases b with
    | none => simp [optD, plD, PyData.eqv]
    | some t =>
      show PyData.eqv (plD s) (plD t) = _
      rw [plD_eqv]
      by_cases c : s = t
      · rw [decide_eq_true c, decide_eq_true (by rw [c])]
      · rw [decide_eq_false c, decide_eq_false fun e => c (Option.some.inj e)]
theorem plA_eqv : ∀ a b : List (Nat × Nat), PyData.eqvAll (a.map plD) (b.map plD) = decide (a = b)
  | [], [] => by simp [PyData.eqvAll]
  | [], _ :: _ => by simp [PyData.eqvAll]
  | _ :: _, [] => by simp [PyData.eqvAll]
  | x :: xs, y :: ys => by
    rw [List.map_cons, List.map_cons, PySem.W.eqv_all_cons, plD_eqv, plA_eqv xs ys]
    by_cases h1 : x = y <;> by_cases h2 : xs = ys <;> simp [h1, h2]
theorem plL_eqv (a b : List (Nat × Nat)) : PyData.eqv (.list (a.map plD)) (.list (b.map plD)) = decide (a = b) := by
  rw [← plA_eqv]
  simp [PyData.eqv]
theorem pl_any (l : List (Nat × Nat)) (s : Nat × Nat) : ((l.map plD).any fun z => PyData.eqv z (plD s)) = decide (s ∈ l) := by
  induction l with
  | nil => simp
  | cons a l ih =>
    rw [List.map_cons, List.any_cons, ih, plD_eqv]
    by_cases h1 : a = s <;> by_cases h2 : s ∈ l <;> simp [h1, h2]
    exact fun e => h1 e.symm
end
theorem ints_empty (l : List Nat) : (!PyData.eqv (.list ((l.map fun (n : Nat) => (n : Int)).map PyData.int)) (.list [])) = !l.isEmpty := by
  cases l <;> rfl
theorem ints_empty' (l : List Nat) : PyData.eqv (.list ((l.map fun (n : Nat) => (n : Int)).map PyData.int)) (.list []) = l.isEmpty := by
  cases l <;> rfl
theorem dec_le {a b : Nat} : decide ((a : Int) ≤ (b : Int)) = decide (a ≤ b) := by
  by_cases c : a ≤ b
  · rw [decide_eq_true c, decide_eq_true (by omega)]
  · rw [decide_eq_false c, decide_eq_false (by omega)]
theorem dec_intV {a b : Nat} : decide (V.int (a : Int) = V.int (b : Int)) = decide (a = b) := by
  by_cases c : a = b
  · rw [decide_eq_true c, decide_eq_true (by rw [c])]
  · rw [decide_eq_false c, decide_eq_false fun y => c (by have := V.int.inj y; omega)]
def tNotN (t : TE) : TT := tTest (tOp (fun x y H Q => y = V.non ∧ Q (V.bl (!decide (x = .non))) H) t (tC .non))
theorem Paired.app {α β : Type} {F : α → β → Prop} : ∀ {a : List α} {b : List β} {c : List α} {d : List β}, Paired F a b → Paired F c d → Paired F (a ++ c) (b ++ d)
  | _, _, _, _, .nil, q => q
  | _, _, _, _, .cons r t, q => .cons r (Paired.app t q)
/-! ### slices and sums of tuples -/
theorem slA_case {K : PySem.W.Frag} {t0 : Addr} {ts : List V} {lo hi : Option Int} {H : Hp} {Q : VK} (ht : H t0 = some (.tup ts)) (h : ∀ b H', Same H H' → H' b = some (.tup (cutV ts lo hi)) → Q (.ref b) H') : rSlA K (.ref t0) lo hi H Q := by
  refine ⟨t0, ts, rfl, SqT.of ht, fun hf => h t0 H (.refl H) ?_, fun hn p np => h p _ (same_upd np) upd_same⟩
  unfold cutV
  rw [hf.1, hf.2, List.drop_zero, Nat.sub_zero, List.take_of_length_le (Nat.le_refl _)]
  exact ht
theorem catA_case {K : PySem.W.Frag} {a b : Addr} {xs ys : List V} {H : Hp} {Q : VK} (ha : H a = some (.tup xs)) (hb : H b = some (.tup ys)) (hl : xs.length + ys.length ≤ sizeLine) (h : ∀ c H', Same H H' → H' c = some (.tup (xs ++ ys)) → Q (.ref c) H') : rCatA K (.ref a) (.ref b) H Q := by
  refine ⟨a, b, xs, ys, rfl, rfl, SqT.of ha, SqT.of hb, hl, fun e => ?_, fun _ e => ?_, fun _ _ p np => h p _ (same_upd np) upd_same⟩
  · subst e
    exact h b H (.refl H) hb
  · subst e
    rw [List.append_nil] at h
    exact h a H (.refl H) ha
/-- the orders but the k-th -/
def wo (os : List Od) (k : Nat) : List Od := os.take k ++ os.drop (k + 1)
theorem wo_ok {p h k : Nat} {os : List Od} (ok : NetOk p h os) : NetOk p h (wo os k) := by
  refine { ok with len := ?_, ok := fun o ho => ?_ }
  · unfold wo
    rw [List.length_append, List.length_take, List.length_drop]
    have := ok.len
    omega
  · rcases List.mem_append.mp ho with z | z
    · exact ok.ok o (List.mem_of_mem_take z)
    · exact ok.ok o (List.mem_of_mem_drop z)
/-! ### delivered by a day, on a day -/
def byDay (p h : Nat) (os : List Od) (day : Nat) (s : Nat × Nat) : Bool := match dst p h os s with
  | none => false
  | some c => decide (c.2 ≤ day)
def onDayB (p h : Nat) (os : List Od) (day : Nat) (s : Nat × Nat) : Bool := match dst p h os s with
  | none => false
  | some c => decide (c.2 = day)
theorem byDay_some {p h day : Nat} {os : List Od} {s c : Nat × Nat} (e : dst p h os s = some c) : byDay p h os day s = decide ((c.2 : Int) ≤ (day : Int)) := by
  unfold byDay
  rw [e, dec_le]
theorem onDay_some {p h day : Nat} {os : List Od} {s c : Nat × Nat} (e : dst p h os s = some c) : onDayB p h os day s = decide (V.int (c.2 : Int) = V.int (day : Int)) := by
  unfold onDayB
  rw [e, dec_intV]
theorem odK {p h s t f n e : Nat} (h1 : s < h) (h2 : t < h) (h3 : s ≠ t) (h4 : f < p) (h5 : 1 ≤ n) (h6 : n ≤ p) (h7 : 1 ≤ e) (h8 : e ≤ 9) : OdOk p h ⟨s, t, f, n, e⟩ := ⟨h1, h2, h3, h4, h5, h6, h7, h8⟩
/-! ### words and numbers -/
def digB (w : Str) : Bool := Txt.isascii w && Txt.isdigit w
def numB (w : Str) : Bool := digB w && (decide (w = "0") || (decide (w.length ≤ 3) && !decide (w.cps.toList.head? = some 48)))
/-- a word, and the number that it is, if it is one -/
structure Wk (w : Str) (v : Option Nat) : Prop where
  num : numB w = v.isSome
  int : ∀ n, v = some n → PySem.intText? w = some (n : Int)
  len : w.length ≤ 640
abbrev s_is_numeral : Stmt := top 9
abbrev N_is_numeral : List Str := ["word"]
abbrev P_is_numeral : List Str := ["word"]
theorem sc_is_numeral : FnScope N_is_numeral P_is_numeral (defScope s_is_numeral) := ⟨rfl, rfl, rfl, by decide +kernel, rfl, by decide +kernel, by decide +kernel⟩
abbrev s_read_line : Stmt := top 10
abbrev N_read_line : List Str := ["line", "word", "count", "first", "numerals", "numeral"]
abbrev P_read_line : List Str := ["line", "word", "count"]
theorem sc_read_line : FnScope N_read_line P_read_line (defScope s_read_line) := ⟨rfl, rfl, rfl, by decide +kernel, rfl, by decide +kernel, by decide +kernel⟩
def spNum : Sp := fun vs H Q _ => ∃ (w : Str), vs = [.str w] ∧ w.length ≤ 640 ∧ Q (.bl (numB w)) H
theorem digit_ne {w : Str} (h : Txt.isdigit w = true) : ∃ c r, w.cps.toList = c :: r := by
  have h1 : (decide (w.length > 0) && w.cps.all Unicode.isDigit) = true := h
  have h2 : w.length > 0 := of_decide_eq_true (Bool.and_eq_true_iff.mp h1).1
  have h3 : w.cps.toList.length > 0 := h2
  cases e : w.cps.toList with
  | nil => rw [e] at h3; cases h3
  | cons c r => exact ⟨c, r, rfl⟩
theorem one_str (c : Nat) : decide (V.str ⟨#[c]⟩ = V.str "0") = decide (c = 48) := by
  by_cases h : c = 48
  · subst h
    exact decide_eq_true (by rfl)
  · rw [decide_eq_false h]
    refine decide_eq_false fun e => h ?_
    have e2 := congrArg (fun s : Str => s.cps.toList) (V.str.inj e)
    have e3 : [c] = [48] := e2
    exact List.singleton_inj.mp e3
section
variable {P : Program} {w : World} {K : PySem.W.Frag} {mg : Str → Option Value} {base : Heap}
theorem ok_numeral {f : Addr} {fd : FuncData} (F : Fun K "is_numeral" "is_numeral" s_is_numeral f fd) (B : Blt mg) (hM : ∃ t, mg "MOST_DIGITS" = some (.int 3 t)) : FnOk P w K mg base CX0 2 f fd P_is_numeral spNum := by
  obtain ⟨tkM, hM⟩ := hM
  refine F.ok sc_is_numeral (fun vs H Q E h => ?_) (fun cdv A outer s H vs Q E hr h => ?_)
  · obtain ⟨x, rfl, _⟩ := h
    rfl
  · obtain ⟨x, rfl, hl, q⟩ := h
    refine ⟨_, pss_cons (ps_if (pt_not (PW.pt (pw_and (pt_val (pe_m0 PySem.F.slot_str_isascii PySem.F.type_str_isascii mt_isascii (pv 0))) (pw_and1 (pt_val (pe_m0 PySem.F.slot_str_isdigit PySem.F.type_str_isdigit mt_isdigit (pv 0))))))) (pss_one (ps_ret pe_bl)) pss_nil)
      (pss_one (ps_ret (pe_or (pe_cmpR op_eq (pv 0) pe_str (nomark _)) (pe_one (pe_and (pe_cmpR op_le (pe_callB call_len_str (by rfl) B.len PySem.boot_len (pa_cons (pv 0) pa_nil)) (pe_glob (v := .int 3) rfl hM ⟨_, rfl⟩) (nomark _))
        (pe_one (pe_cmpR op_ne (pe_ix ix_str (pv 0) pe_int (fun _ _ => rfl)) pe_str (nomark _)))))))), ?_⟩
    have hz : x.length ≤ sizeLine := by rw [sizeLine_eq]; omega
    have eN : numB x = (digB x && (decide (x = "0") || (decide (x.length ≤ 3) && !decide (x.cps.toList.head? = some 48)))) := rfl
    have eD : digB x = (Txt.isascii x && Txt.isdigit x) := rfl
    refine ⟨_, rfl, ⟨_, rfl⟩, x, rfl, rfl, trivial, _, rfl, ite2 (fun e1 => ?_) (fun e1 => ?_)⟩
    · refine ⟨_, rfl, ⟨_, rfl⟩, x, rfl, rfl, trivial, _, rfl, ite2 (fun e2 => ?_) (fun e2 => ?_)⟩
      · have e3 : Txt.isdigit x = false := by simpa using e2
        have e4 : numB x = false := by rw [eN, eD, e3, Bool.and_false, Bool.false_and]
        rw [e4] at q
        exact q
      · have e3 : Txt.isdigit x = true := by simpa using e2
        have e4 : numB x = (decide (x = "0") || (decide (x.length ≤ 3) && !decide (x.cps.toList.head? = some 48))) := by rw [eN, eD, e1, e3]; rfl
        rw [e4] at q
        obtain ⟨c, r, hc⟩ := digit_ne e3
        have es : decide (V.str x = V.str "0") = decide (x = "0") := by
          by_cases h : x = "0"
          · rw [decide_eq_true h, decide_eq_true (by rw [h])]
          · rw [decide_eq_false h, decide_eq_false fun e => h (V.str.inj e)]
        refine ⟨_, rfl, rfl, _, rfl, ?_⟩
        rw [es]
        refine ite2 (fun e5 => ?_) (fun e5 => ?_)
        · rw [e5, Bool.true_or] at q
          exact q
        · rw [Bool.eq_false_iff.mpr e5, Bool.false_or] at q
          refine ⟨_, rfl, x, rfl, hz, _, _, rfl, rfl, _, rfl, ?_⟩
          have el : decide ((x.length : Int) ≤ 3) = decide (x.length ≤ 3) := by
            by_cases h : x.length ≤ 3
            · rw [decide_eq_true h, decide_eq_true (by omega)]
            · rw [decide_eq_false h, decide_eq_false (by omega)]
          rw [el]
          refine ite2 (fun e6 => ?_) (fun e6 => ?_)
          · rw [e6, Bool.true_and, hc] at q
            refine ⟨_, rfl, x, 0, c, rfl, rfl, hz, by rw [hc]; exact atI_nat (j := 0) rfl, rfl, ?_⟩
            rw [one_str]
            have e7 : decide ((c :: r).head? = some 48) = decide (c = 48) := by
              by_cases h : c = 48 <;> simp [h]
            rw [e7] at q
            exact q
          · rw [Bool.eq_false_iff.mpr e6, Bool.false_and] at q
            exact q
    · have e3 : Txt.isascii x = false := Bool.eq_false_iff.mpr e1
      have e4 : numB x = false := by rw [eN, eD, e3, Bool.false_and, Bool.false_and]
      rw [e4] at q
      exact iteT q
/-- the numbers of a line, or None -/
def rowOf (word : Str) (count : Nat) (ws : List Str) (vals : List (Option Nat)) : Option (List Nat) := match ws with
  | [] => none
  | w :: _ => if w = word ∧ vals.length = count ∧ vals.all Option.isSome = true then some (vals.filterMap id) else none
def RowAt (H H' : Hp) (v : V) : Option (List Nat) → Prop
  | none => v = .non
  | some l => ∃ u, v = .ref u ∧ H u = none ∧ H' u = some (.tup (nints l))
def spLine : Sp := fun vs H Q _ => ∃ (line word w0 : Str) (count : Nat) (ws : List Str) (vals : List (Option Nat)), vs = [.str line, .str word, .int count] ∧ line.length ≤ 100000 ∧ Txt.split line " " = w0 :: ws ∧ ws.length ≤ 60 ∧ Paired Wk ws vals ∧
  ∀ H' v, Same H H' → RowAt H H' v (rowOf word count (w0 :: ws) vals) → Q v H'
theorem ok_line {f : Addr} {fd : FuncData} (F : Fun K "read_line" "read_line" s_read_line f fd) (B : Blt mg) (DN : Df P w K mg base "is_numeral" 2 P_is_numeral spNum) : FnOk P w K mg base CX0 3 f fd P_read_line spLine := by
  obtain ⟨fN, fdN, gN, kN, bN, GN⟩ := DN
  refine F.ok sc_read_line (fun vs H Q E h => ?_) (fun cdv A outer s H vs Q E hr h => ?_)
  · obtain ⟨line, word, w0, count, ws, vals, rfl, _⟩ := h
    rfl
  · obtain ⟨line, word, w0, count, ws, vals, rfl, hl, hs, hw, hp, q⟩ := h
    refine ⟨_, pss_cons (ps_asg (pe_split (pv 0) pe_str) (pg_star1 rfl (pgs_cons (pg_name (i := 3) sc_read_line.nd rfl (.inl rfl)) (pgs_star (pg_name (i := 4) sc_read_line.nd rfl (.inl rfl)) pgs_nil))))
      (pss_cons (ps_if (PW.pt (pw_or (pt_cmpR op_ne (pv 3) (pv 1) (nomark _)) (pw_or1 (pt_cmpR op_ne (pe_callB call_len_seq (by rfl) B.len PySem.boot_len (pa_cons (pv 4) pa_nil)) (pv 2) (nomark _))))) (pss_one (ps_ret pe_non)) pss_nil)
      (pss_cons (ps_if (pt_not (pt_val (pe_callB (cr_all rfl) (by rfl) B.all PyProof.Rows.boot_all (pa_cons (pe_lc (own := [("numeral", 5)]) (g := gName 5) (tt := tYes) (te := tCall spNum [] E0 (tCons (tVar 5) tNil)) (by rfl) sc_read_line.nd (pi_list (pv 4))
            (blkOk_by (N := N_read_line) (sc := defScope s_read_line) (by decide +kernel)) (fun _ _ _ _ _ => pg_name (i := 5) sc_read_line.nd rfl (.inl rfl)) (fun _ _ _ _ _ => pts_nil) (fun _ _ _ _ _ => pe_call GN hr (by rfl) gN kN bN .nil pass0 (pa_cons (pv 5) pa_nil))) pa_nil)))) (pss_one (ps_ret pe_non)) pss_nil)
      (pss_one (ps_ret (pe_callTy call_tuple_of (by rfl) B.tuple (by decide +kernel) (pa_cons (pe_lc (own := [("numeral", 5)]) (g := gName 5) (tt := tYes) (te := tCB (fun xs H Q => ∃ a n, xs = [V.str a] ∧ PySem.intText? a = some n ∧ a.length ≤ 640 ∧ Q (.int n) H) (tCons (tVar 5) tNil)) (by rfl) sc_read_line.nd (pi_list (pv 4))
            (blkOk_by (N := N_read_line) (sc := defScope s_read_line) (by decide +kernel)) (fun _ _ _ _ _ => pg_name (i := 5) sc_read_line.nd rfl (.inl rfl)) (fun _ _ _ _ _ => pts_nil) (fun _ _ _ _ _ => pe_callTy call_int_str (by rfl) B.int (by decide +kernel) (pa_cons (pv 5) pa_nil))) pa_nil)))))), ?_⟩
    have hlen := hp.length
    refine ⟨_, rfl, ⟨_, rfl⟩, line, " ", rfl, rfl, rfl, by rw [sizeLine_eq]; omega, fun p np => ?_⟩
    rw [hs]
    have s1 := same_upd (o := HO.lst ((w0 :: ws).map V.str)) np
    refine ⟨p, .str w0, ws.map V.str, rfl, SqL.of upd_same, by rw [List.length_map]; omega, fun D nD => ?_⟩
    have s2 := same_upd (o := HO.lst (ws.map V.str)) nD
    have hD : (upd (upd H p (.lst ((w0 :: ws).map V.str))) D (.lst (ws.map V.str))) D = some (.lst (ws.map V.str)) := upd_same
    have s12 := s1.trans s2
    generalize (upd (upd H p (.lst ((w0 :: ws).map V.str))) D (.lst (ws.map V.str))) = H1 at hD s12
    refine ⟨_, _, rfl, _, _, rfl, rfl, ?_⟩
    have no : (rowOf word count (w0 :: ws) vals = none) → Q .non H1 := fun e => q H1 .non s12 (by rw [e]; rfl)
    refine ⟨_, rfl, _, rfl, rfl, _, rfl, ite2 (fun e1 => ?_) (fun e1 => ?_)⟩
    · refine no ?_
      have : w0 ≠ word := fun z => by
        rw [z, decide_eq_true rfl] at e1
        cases e1
      exact if_neg fun z => this z.1
    have ew : w0 = word := by
      by_cases z : w0 = word
      · exact z
      · exact absurd (by rw [decide_eq_false fun e => z (V.str.inj e)]; rfl) e1
    refine ⟨_, rfl, D, _, rfl, .inl (SqL.of hD), _, rfl, rfl, _, rfl, ?_⟩
    rw [List.length_map, hlen]
    refine ite2 (fun e2 => ?_) (fun e2 => ?_)
    · refine no ?_
      have : vals.length ≠ count := fun z => by
        rw [z, decide_eq_true rfl] at e2
        cases e2
      exact if_neg fun z => this z.2.1
    have ec : vals.length = count := by
      by_cases z : vals.length = count
      · exact z
      · exact absurd (by rw [decide_eq_false fun e => z (by have := V.int.inj e; omega)]; rfl) e2
    -- all of them numbers?
    refine ⟨_, rfl, D, rfl, ⟨_, SqL.of hD⟩, fun L nL => ?_⟩
    have nDL : D ≠ L := ne_of_none hD nL
    refine lc_list (K := K) (a := D) (xs := ws.map V.str) (fun k H' => H' = upd H1 L (.lst ((vals.take k).map fun o => V.bl o.isSome))) rfl (fun k H' _ e => by rw [e]; exact SqL.of ((upd_ne nDL).trans hD)) ?_ ?_
    · rintro k v H' hk rfl
      rw [List.getElem?_map] at hk
      obtain ⟨wk, hwk, rfl⟩ := Option.map_eq_some_iff.mp hk
      have lt : k < vals.length := by rw [← hlen]; exact (List.getElem?_eq_some_iff.mp hwk).1
      obtain ⟨w', hw', hx⟩ := Paired.get? (i := k) hp (List.getElem?_eq_getElem lt)
      obtain rfl : w' = wk := Option.some.inj (hw'.symm.trans hwk)
      refine ⟨rfl, _, rfl, w', rfl, hx.len, _, upd_same, ?_, ?_⟩
      · rw [List.length_map, List.length_take]
        exact small1000 (by omega)
      · rw [upd_upd, List.take_add_one, List.getElem?_eq_getElem lt, List.map_append, hx.num]
        rfl
    rintro H' rfl
    rw [List.length_map, hlen, List.take_of_length_le (Nat.le_refl _)]
    have s3 := same_upd (o := HO.lst (vals.map fun o => V.bl o.isSome)) nL
    have s13 := s12.trans s3
    have hD3 := s3 _ _ hD
    refine ⟨L, vals.map Option.isSome, rfl, ?_, _, rfl, ?_⟩
    · rw [List.map_map]
      exact SqL.of upd_same
    have eall : (vals.map Option.isSome).all id = vals.all Option.isSome := by rw [List.all_map]; rfl
    rw [eall]
    refine ite2 (fun e3 => ?_) (fun e3 => ?_)
    · have e4 : vals.all Option.isSome = false := by simpa using e3
      exact q _ .non s13 (by rw [show rowOf word count (w0 :: ws) vals = none from if_neg fun z => by rw [e4] at z; exact absurd z.2.2 Bool.false_ne_true]; rfl)
    have e4 : vals.all Option.isSome = true := by
      cases h : vals.all Option.isSome with
      | true => rfl
      | false => exact absurd (by rw [h]; rfl) e3
    have er : rowOf word count (w0 :: ws) vals = some (vals.filterMap id) := if_pos ⟨ew, ec, e4⟩
    generalize (upd H1 L (.lst (vals.map fun o => V.bl o.isSome))) = H3 at s13 hD3
    -- the numbers
    refine ⟨_, rfl, D, rfl, ⟨_, SqL.of hD3⟩, fun L2 nL2 => ?_⟩
    have nDL2 : D ≠ L2 := ne_of_none hD3 nL2
    refine lc_list (K := K) (a := D) (xs := ws.map V.str) (fun k H' => H' = upd H3 L2 (.lst (nints ((vals.take k).filterMap id)))) rfl (fun k H' _ e => by rw [e]; exact SqL.of ((upd_ne nDL2).trans hD3)) ?_ ?_
    · rintro k v H' hk rfl
      rw [List.getElem?_map] at hk
      obtain ⟨wk, hwk, rfl⟩ := Option.map_eq_some_iff.mp hk
      have lt : k < vals.length := by rw [← hlen]; exact (List.getElem?_eq_some_iff.mp hwk).1
      have ek := List.getElem?_eq_getElem lt
      obtain ⟨w', hw', hx⟩ := Paired.get? (i := k) hp ek
      obtain rfl : w' = wk := Option.some.inj (hw'.symm.trans hwk)
      have hsome := List.all_eq_true.mp e4 _ (List.mem_of_getElem? ek)
      generalize vals[k] = ok at ek hx hsome
      cases ok with
      | none => cases hsome
      | some n =>
        refine ⟨rfl, _, rfl, w', (n : Int), rfl, hx.int n rfl, hx.len, _, upd_same, ?_, ?_⟩
        · unfold nints
          rw [List.length_map]
          exact small1000 (Nat.le_trans (List.length_filterMap_le _ _) (by rw [List.length_take]; omega))
        · rw [upd_upd, List.take_add_one, ek, List.filterMap_append]
          unfold nints
          rw [List.map_append]
          rfl
    rintro H' rfl
    rw [List.length_map, hlen, List.take_of_length_le (Nat.le_refl _)]
    have s4 := same_upd (o := HO.lst (nints (vals.filterMap id))) nL2
    refine ⟨L2, _, rfl, .inl ⟨SqL.of upd_same, fun u nu => ?_⟩⟩
    have s5 := same_upd (o := HO.tup (nints (vals.filterMap id))) nu
    refine q _ _ (s13.trans (s4.trans s5)) ?_
    rw [er]
    exact ⟨u, rfl, s13.free (s4.free nu), upd_same⟩
end
/-! ### numbers as texts -/
def nT (n : Nat) : Str := Str.ofString (toString (n : Int))
def nTok (n : Nat) : Bool := numB (nT n) && decide (PySem.intText? (nT n) = some (n : Int)) && decide ((nT n).length ≤ 2) && (nT n).cps.all (fun c => decide (48 ≤ c ∧ c ≤ 57))
theorem nTok_all : (List.range 31).all nTok = true := by decide +kernel
theorem nT_ok {n : Nat} (h : n ≤ 30) : numB (nT n) = true ∧ PySem.intText? (nT n) = some (n : Int) ∧ (nT n).length ≤ 2 ∧ ∀ c ∈ (nT n).cps.toList, 48 ≤ c ∧ c ≤ 57 := by
  have h1 := List.all_eq_true.mp nTok_all n (List.mem_range.mpr (by omega))
  unfold nTok at h1
  rw [Bool.and_eq_true, Bool.and_eq_true, Bool.and_eq_true] at h1
  obtain ⟨⟨⟨a, b⟩, c⟩, d⟩ := h1
  refine ⟨a, of_decide_eq_true b, of_decide_eq_true c, fun x hx => ?_⟩
  have := Array.all_eq_true_iff_forall_mem.mp d x (Array.mem_toList_iff.mp hx)
  exact of_decide_eq_true this
/-! ### texts of nets: plain mathematics -/
theorem mem_joinL {S : List Nat} {x : Nat} : ∀ {parts : List (List Nat)}, x ∈ TL.joinL S parts → x ∈ S ∨ ∃ p ∈ parts, x ∈ p
  | [], h => by cases h
  | [p], h => .inr ⟨p, List.mem_singleton.mpr rfl, h⟩
  | p :: q :: r, h => by
    rcases List.mem_append.mp (show x ∈ p ++ (S ++ TL.joinL S (q :: r)) from h) with h | h
    · exact .inr ⟨p, List.mem_cons_self, h⟩
    · rcases List.mem_append.mp h with h | h
      · exact .inl h
      · rcases mem_joinL h with h | ⟨z, hz, h⟩
        · exact .inl h
        · exact .inr ⟨z, List.mem_cons_of_mem _ hz, h⟩
theorem mem_join {y : Str} {x : Nat} {parts : List Str} (h : x ∈ TL.tl (Txt.join y parts)) : x ∈ TL.tl y ∨ ∃ p ∈ parts, x ∈ TL.tl p := by
  rw [TL.join_eq, TL.tl_join] at h
  rcases mem_joinL h with h | ⟨z, hz, h⟩
  · exact .inl h
  · obtain ⟨p, hp, rfl⟩ := List.mem_map.mp hz
    exact .inr ⟨p, hp, h⟩
theorem len_joinL {S : List Nat} : ∀ parts : List (List Nat), (TL.joinL S parts).length ≤ (parts.map List.length).sum + parts.length * S.length
  | [] => Nat.zero_le _
  | [p] => by
    show p.length ≤ _
    simp
  | p :: q :: r => by
    have ih := len_joinL (S := S) (q :: r)
    show (p ++ (S ++ TL.joinL S (q :: r))).length ≤ _
    rw [List.length_append, List.length_append, List.map_cons, List.sum_cons, List.length_cons, Nat.succ_mul]
    omega
theorem len_join {y : Str} (parts : List Str) : (Txt.join y parts).length ≤ (parts.map (·.length)).sum + parts.length * y.length := by
  have h := len_joinL (S := TL.tl y) (parts.map TL.tl)
  rw [TL.len_tl, TL.join_eq, TL.tl_join, TL.len_tl y]
  rw [List.map_map, List.length_map] at h
  exact h
def wordsO (o : Od) : List Str := [nT o.s, nT o.t, nT o.f, nT o.n, nT o.e]
def lineNet (p h : Nat) : Str := Txt.join " " [("net" : Str), nT p, nT h]
def lineOrd (o : Od) : Str := Txt.join " " (("order" : Str) :: wordsO o)
def linesOf (p h : Nat) (os : List Od) : List Str := lineNet p h :: os.map lineOrd
def textOf (p h : Nat) (os : List Od) : Str := Txt.join "\n" (linesOf p h os)
/-- a word of digits or letters -/
def Plain (w : Str) : Prop := ∀ c ∈ TL.tl w, 33 ≤ c
theorem nT_plain {n : Nat} (h : n ≤ 30) : Plain (nT n) := fun c hc => by
  have := (nT_ok h).2.2.2 c hc
  omega
theorem net_plain : Plain "net" := by
  unfold Plain
  decide +kernel
theorem order_plain : Plain "order" := by
  unfold Plain
  decide +kernel
theorem od_le {p h : Nat} {os : List Od} {o : Od} (k : NetOk p h os) (ho : o ∈ os) : o.s ≤ 30 ∧ o.t ≤ 30 ∧ o.f ≤ 30 ∧ o.n ≤ 30 ∧ o.e ≤ 30 := by
  have a := k.ok o ho
  have := a.s; have := a.t; have := a.f; have := a.n; have := a.e; have := k.p30; have := k.h10
  omega
theorem wordsO_plain {p h : Nat} {os : List Od} {o : Od} (k : NetOk p h os) (ho : o ∈ os) : ∀ w ∈ wordsO o, Plain w := by
  obtain ⟨h1, h2, h3, h4, h5⟩ := od_le k ho
  intro w hw
  unfold wordsO at hw
  simp only [List.mem_cons, List.not_mem_nil, or_false] at hw
  rcases hw with rfl | rfl | rfl | rfl | rfl
  · exact nT_plain h1
  · exact nT_plain h2
  · exact nT_plain h3
  · exact nT_plain h4
  · exact nT_plain h5
theorem split_words {ws : List Str} (hne : ws ≠ []) (h : ∀ w ∈ ws, Plain w) : Txt.split (Txt.join " " ws) " " = ws :=
  TL.split_join (s := 32) (S := []) (by decide +kernel) (by decide +kernel) hne fun w hw hc => by
    have := h w hw 32 hc
    omega
theorem line_free {ws : List Str} (h : ∀ w ∈ ws, Plain w) : 10 ∉ TL.tl (Txt.join " " ws) := fun hc => by
  rcases mem_join hc with h1 | ⟨w, hw, h1⟩
  · have : TL.tl " " = [32] := by decide +kernel
    rw [this] at h1
    simp at h1
  · have := h w hw 10 h1
    omega
theorem split_lines {ls : List Str} (hne : ls ≠ []) (h : ∀ l ∈ ls, 10 ∉ TL.tl l) : Txt.split (Txt.join "\n" ls) "\n" = ls :=
  TL.split_join (s := 10) (S := []) (by decide +kernel) (by decide +kernel) hne h
theorem split_net {p h : Nat} (hp : p ≤ 30) (hh : h ≤ 30) : Txt.split (lineNet p h) " " = [("net" : Str), nT p, nT h] := split_words (by simp) fun w hw => by
  simp only [List.mem_cons, List.not_mem_nil, or_false] at hw
  rcases hw with rfl | rfl | rfl
  · exact net_plain
  · exact nT_plain hp
  · exact nT_plain hh
theorem split_ord {p h : Nat} {os : List Od} {o : Od} (k : NetOk p h os) (ho : o ∈ os) : Txt.split (lineOrd o) " " = ("order" : Str) :: wordsO o := split_words (by simp) fun w hw => by
  rcases List.mem_cons.mp hw with rfl | hw
  · exact order_plain
  · exact wordsO_plain k ho w hw
theorem split_text {p h : Nat} {os : List Od} (k : NetOk p h os) : Txt.split (textOf p h os) "\n" = linesOf p h os := split_lines (by unfold linesOf; simp) fun l hl => by
  have := k.p30; have := k.h10
  rcases List.mem_cons.mp hl with rfl | hl
  · refine line_free fun w hw => ?_
    simp only [List.mem_cons, List.not_mem_nil, or_false] at hw
    rcases hw with rfl | rfl | rfl
    · exact net_plain
    · exact nT_plain (by omega)
    · exact nT_plain (by omega)
  · obtain ⟨o, ho, rfl⟩ := List.mem_map.mp hl
    refine line_free fun w hw => ?_
    rcases List.mem_cons.mp hw with rfl | hw
    · exact order_plain
    · exact wordsO_plain k ho w hw
theorem len_net {p h : Nat} (hp : p ≤ 30) (hh : h ≤ 30) : (lineNet p h).length ≤ 20 := by
  refine Nat.le_trans (len_join _) ?_
  have h1 := (nT_ok hp).2.2.1
  have h2 := (nT_ok hh).2.2.1
  have h3 : ("net" : Str).length = 3 := by decide +kernel
  have h4 : (" " : Str).length = 1 := by decide +kernel
  simp [h3, h4]
  omega
theorem len_ord {p h : Nat} {os : List Od} {o : Od} (k : NetOk p h os) (ho : o ∈ os) : (lineOrd o).length ≤ 30 := by
  refine Nat.le_trans (len_join _) ?_
  obtain ⟨h1, h2, h3, h4, h5⟩ := od_le k ho
  have a1 := (nT_ok h1).2.2.1
  have a2 := (nT_ok h2).2.2.1
  have a3 := (nT_ok h3).2.2.1
  have a4 := (nT_ok h4).2.2.1
  have a5 := (nT_ok h5).2.2.1
  have a6 : ("order" : Str).length = 5 := by decide +kernel
  have a7 : (" " : Str).length = 1 := by decide +kernel
  unfold wordsO
  simp [a6, a7]
  omega
theorem lines_len {p h : Nat} {os : List Od} (k : NetOk p h os) : ∀ l ∈ linesOf p h os, l.length ≤ 30 := fun l hl => by
  have := k.p30; have := k.h10
  rcases List.mem_cons.mp hl with rfl | hl
  · exact Nat.le_trans (len_net (by omega) (by omega)) (by decide)
  · obtain ⟨o, ho, rfl⟩ := List.mem_map.mp hl
    exact len_ord k ho
theorem sum_le {l : List Nat} {m : Nat} (h : ∀ x ∈ l, x ≤ m) : l.sum ≤ l.length * m := by
  induction l with
  | nil => exact Nat.zero_le _
  | cons a l ih =>
    rw [List.sum_cons, List.length_cons, Nat.succ_mul]
    have := ih fun x hx => h x (List.mem_cons_of_mem _ hx)
    have := h a List.mem_cons_self
    omega
theorem lines_sum {p h : Nat} {os : List Od} (k : NetOk p h os) : ((linesOf p h os).map (·.length)).sum ≤ 630 := by
  refine Nat.le_trans (sum_le (m := 30) fun x hx => ?_) ?_
  · obtain ⟨l, hl, rfl⟩ := List.mem_map.mp hx
    exact lines_len k l hl
  · rw [List.length_map]
    show (os.map lineOrd).length.succ * 30 ≤ 630
    rw [List.length_map]
    have := k.len
    omega
theorem len_text {p h : Nat} {os : List Od} (k : NetOk p h os) : (textOf p h os).length ≤ 700 := by
  refine Nat.le_trans (len_join _) ?_
  have h1 := lines_sum k
  have h2 : ("\n" : Str).length = 1 := by decide +kernel
  have h3 : (linesOf p h os).length ≤ 21 := by
    show (os.map lineOrd).length.succ ≤ 21
    rw [List.length_map]
    have := k.len
    omega
  rw [h2]
  omega
theorem wk_nT {n : Nat} (h : n ≤ 30) : Wk (nT n) (some n) := ⟨(nT_ok h).1, fun m e => by
  cases e
  exact (nT_ok h).2.1, by have := (nT_ok h).2.2.1; omega⟩
/-- joined words, one behind the other -/
theorem join3 (a b c : Str) : Txt.join " " [a, b, c] = a ++ " " ++ b ++ " " ++ c := by
  rw [TL.join_eq]
  refine TL.ext_tl ?_
  rw [TL.tl_join]
  simp [TL.joinL, TL.tl_append]
theorem join6 (a b c d e f : Str) : Txt.join " " [a, b, c, d, e, f] = a ++ " " ++ b ++ " " ++ c ++ " " ++ d ++ " " ++ e ++ " " ++ f := by
  rw [TL.join_eq]
  refine TL.ext_tl ?_
  rw [TL.tl_join]
  simp [TL.joinL, TL.tl_append]
theorem cat_net : (Str.empty ++ "net " : Str) = "net" ++ " " := by decide +kernel
theorem cat_order : (Str.empty ++ "order " : Str) = "order" ++ " " := by decide +kernel
theorem cat_net' : ("net " : Str) = "net" ++ " " := by decide +kernel
abbrev s_read_rows : Stmt := top 20
abbrev N_read_rows : List Str := ["text", "rows", "word", "count", "at", "line", "row"]
abbrev P_read_rows : List Str := ["text"]
theorem sc_read_rows : FnScope N_read_rows P_read_rows (defScope s_read_rows) := ⟨rfl, rfl, rfl, by decide +kernel, rfl, by decide +kernel, by decide +kernel⟩
/-! ### the lines of a text, read -/
theorem for_enumL {K : PySem.W.Frag} {a : Addr} {xs : List V} {g : TG} {tb : TS} {D : Ends} {σ : L2.St} {H : Hp} (Pv : Nat → L2.St → Hp → Prop) (h0 : Pv 0 σ H) (hl : ∀ i σ H, Pv i σ H → H a = some (.lst xs))
    (hs : ∀ i x σ H T, xs[i]? = some x → Pv i σ H → H T = none → g (.ref T) σ (upd H T (.tup [.int (i : Nat), x])) fun σ2 H2 => tb { D with nx := Pv (i + 1), ct := Pv (i + 1), bk := D.nx } σ2 H2) (hd : ∀ σ H, Pv xs.length σ H → D.nx σ H) :
    ∃ W : Nat → Nat → L2.St → Hp → Prop, (∃ m, W 0 m σ H) ∧ ∀ i m σ H, W i m σ H →
      ((Ite K a).stop i H ∧ D.nx σ H) ∨ ((Ite K a).go i H ∧ ∃ N : L2.St → Hp → Prop, (∀ σ' H', N σ' H' → ∃ m', m' < m ∧ W (i + 1) m' σ' H') ∧ ∀ x H', (Ite K a).yld i H x H' → g x σ H' fun σ2 H2 => tb { D with nx := N, ct := N, bk := D.nx } σ2 H2) := by
  refine ⟨fun i m σ H => m = xs.length - i ∧ i ≤ xs.length ∧ Pv i σ H, ⟨xs.length, rfl, Nat.zero_le _, h0⟩, ?_⟩
  rintro i m σ H ⟨rfl, hi, p⟩
  have q := hl i σ H p
  by_cases hlt : i < xs.length
  · refine .inr ⟨⟨xs, xs[i], SqL.of q, List.getElem?_eq_getElem hlt⟩, Pv (i + 1), fun σ' H' p' => ⟨xs.length - (i + 1), by omega, rfl, hlt, p'⟩, fun x H' y => ?_⟩
    obtain ⟨T, x', rfl, nT', rfl, f⟩ := y
    obtain rfl : x' = xs[i] := Option.some.inj ((f xs (SqL.of q)).symm.trans (List.getElem?_eq_getElem hlt))
    exact hs i _ σ H T (List.getElem?_eq_getElem hlt) p nT'
  · refine .inl ⟨⟨xs, SqL.of q, by omega⟩, hd σ H ?_⟩
    rw [show xs.length = i by omega]
    exact p
/-- what is read of the k-th line -/
def LineOk (k : Nat) (line : Str) (row : List Nat) : Prop := ∃ w0 ws vals, line.length ≤ 100000 ∧ Txt.split line " " = w0 :: ws ∧ ws.length ≤ 60 ∧ Paired Wk ws vals ∧ rowOf (if k = 0 then "net" else "order") (if k = 0 then 2 else 5) (w0 :: ws) vals = some row
def RowTup (H : Hp) (v : V) (l : List Nat) : Prop := ∃ u, v = .ref u ∧ H u = some (.tup (nints l))
theorem RowTup.keep {H H' : Hp} {v : V} {l : List Nat} (k : TupKeep H H') (h : RowTup H v l) : RowTup H' v l := by
  obtain ⟨u, e, hu⟩ := h
  exact ⟨u, e, k _ _ hu⟩
def spRows : Sp := fun vs H Q _ => ∃ (text : Str) (lines : List Str) (rows : List (List Nat)), vs = [.str text] ∧ text.length ≤ 100000 ∧ Txt.split text "\n" = lines ∧ lines.length = rows.length ∧ rows.length ≤ 100 ∧ (∀ k l r, lines[k]? = some l → rows[k]? = some r → LineOk k l r) ∧
  ∀ H' r us, Same H H' → H r = none → H' r = some (.lst us) → Paired (RowTup H') us rows → Q (.ref r) H'
section
variable {P : Program} {w : World} {K : PySem.W.Frag} {mg : Str → Option Value} {base : Heap}
theorem ok_rows {f : Addr} {fd : FuncData} (F : Fun K "read_rows" "read_rows" s_read_rows f fd) (B : Blt mg) (DL : Df P w K mg base "read_line" 3 P_read_line spLine) : FnOk P w K mg base CX0 4 f fd P_read_rows spRows := by
  obtain ⟨fL, fdL, gL, kL, bL, GL⟩ := DL
  refine F.ok sc_read_rows (fun vs H Q E h => ?_) (fun cdv A outer s H vs Q E hr h => ?_)
  · obtain ⟨text, lines, rows, rfl, _⟩ := h
    rfl
  · obtain ⟨text, lines, rows, rfl, ht, hs, hl, hr100, hok, q⟩ := h
    refine ⟨_, pss_cons (ps_if (pt_not (pt_val (pe_callB call_isi (by rfl) B.isi PyProof.Rows.boot_isinstance (pa_cons (pv 0) (pa_cons (pe_bltn (v := .ty "str") (by rfl) B.str (by decide +kernel) rfl) pa_nil))))) (pss_one ps_never) pss_nil)
      (pss_cons (ps_set (i := 1) sc_read_rows.nd rfl (.inl rfl) (pe_lst pa_nil))
      (pss_cons (ps_asg (pe_tup (pa_cons pe_str (pa_cons pe_int pa_nil))) (pg_tup (by rfl) (pgs_cons (pg_name (i := 2) sc_read_rows.nd rfl (.inl rfl)) (pgs_cons (pg_name (i := 3) sc_read_rows.nd rfl (.inl rfl)) pgs_nil))))
      (pss_cons (ps_for PassesOwn.never rfl (pi_enum (by rfl) B.enum (pa_cons (pe_split (pv 0) pe_str) pa_nil)) (pg_tup (by rfl) (pgs_cons (pg_name (i := 4) sc_read_rows.nd rfl (.inl rfl)) (pgs_cons (pg_name (i := 5) sc_read_rows.nd rfl (.inl rfl)) pgs_nil)))
        (pss_cons (ps_set (i := 6) sc_read_rows.nd rfl (.inl rfl) (pe_call GL hr (by rfl) gL kL bL .nil pass0 (pa_cons (pv 5) (pa_cons (pv 2) (pa_cons (pv 3) pa_nil)))))
        (pss_cons (ps_if (pt_cmpR op_isN (pv 6) pe_non (nomark _)) (pss_one ps_never) pss_nil)
        (pss_cons (ps_expr (pe_bm PySem.F.plainAttrs_list PySem.F.slot_list_append PySem.F.type_list_append mt_append (pv 1) (pa_cons (pv 6) pa_nil)))
        (pss_one (ps_asg (pe_tup (pa_cons pe_str (pa_cons pe_int pa_nil))) (pg_tup (by rfl) (pgs_cons (pg_name (i := 2) sc_read_rows.nd rfl (.inl rfl)) (pgs_cons (pg_name (i := 3) sc_read_rows.nd rfl (.inl rfl)) pgs_nil)))))))))
      (pss_one (ps_ret (pv 1)))))), ?_⟩
    refine ⟨_, rfl, _, _, _, _, true, rfl, .ty "str", .base (.str text), kit_ty (by decide +kernel), _, rfl, iteF ?_⟩
    refine ⟨Nat.zero_le _, fun r nr => ?_⟩
    refine ⟨(by show 2 ≤ sizeLine; decide), fun k0 nk0 => ⟨k0, _, rfl, SqT.of upd_same, rfl, _, _, rfl, _, _, rfl, rfl, ?_⟩⟩
    refine ⟨_, rfl, ⟨_, rfl⟩, text, "\n", rfl, rfl, rfl, by rw [sizeLine_eq]; omega, fun sp nsp => ?_⟩
    rw [hs]
    have s1 := same_upd (o := HO.lst []) nr
    have s0 := same_upd (o := HO.tup [.str "net", .int 2]) nk0
    have s2 := same_upd (o := HO.lst (lines.map V.str)) nsp
    have nrs : r ≠ sp := ne_of_none (s0 _ _ upd_same) nsp
    refine ⟨sp, _, rfl, SqL.of upd_same, for_enumL (K := K) (a := sp) (xs := lines.map V.str) (fun i σ H' => (∃ x4 x5 x6, σ = [some (.str text), some (.ref r), some (.str (if i = 0 then "net" else "order")), some (.int ((if i = 0 then 2 else 5 : Nat) : Int)), x4, x5, x6]) ∧ Same H H' ∧ H' sp = some (.lst (lines.map V.str)) ∧ ∃ us, H' r = some (.lst us) ∧ Paired (RowTup H') us (rows.take i))
      ⟨⟨_, _, _, rfl⟩, s1.trans (s0.trans s2), upd_same, [], (upd_ne nrs).trans (s0 _ _ upd_same), .nil⟩ (fun i σ H' ⟨_, _, h', _⟩ => h') ?_ ?_⟩
    · rintro i x σ H1 T hi ⟨⟨x4, x5, x6, rfl⟩, s3, hsp, us, hus, hru⟩ nTT
      rw [List.getElem?_map] at hi
      obtain ⟨line, hline, rfl⟩ := Option.map_eq_some_iff.mp hi
      have lt : i < rows.length := by rw [← hl]; exact (List.getElem?_eq_some_iff.mp hline).1
      have ei := List.getElem?_eq_getElem lt
      obtain ⟨w0, ws, vals, a1, a2, a3, a4, a5⟩ := hok i line _ hline ei
      generalize rows[i] = row at ei a5
      have s4 := same_upd (o := HO.tup [.int (i : Nat), .str line]) nTT
      refine ⟨T, _, rfl, SqT.of upd_same, rfl, _, _, rfl, _, _, rfl, rfl, ?_⟩
      refine ⟨_, rfl, _, rfl, _, rfl, line, _, w0, (if i = 0 then 2 else 5), ws, vals, rfl, a1, a2, a3, a4, fun H2 v s5 hv => ?_⟩
      rw [a5] at hv
      obtain ⟨u, rfl, nu, hu⟩ := hv
      have s45 := s4.trans s5
      have hr2 := s45 _ _ hus
      have hsp2 := s45 _ _ hsp
      refine ⟨_, rfl, rfl, _, rfl, iteF ⟨_, rfl, .inl ⟨rfl, _, SqL.of hr2⟩, _, rfl, r, _, _, rfl, rfl, hr2, ?_, ?_⟩⟩
      · rw [hru.length, List.length_take]
        exact small1000 (by omega)
      have k := TupKeep.lst (o := HO.lst (us ++ [.ref u])) hr2
      refine ⟨(by show 2 ≤ sizeLine; decide), fun k1 nk1 => ⟨k1, _, rfl, SqT.of upd_same, rfl, _, _, rfl, _, _, rfl, rfl, ?_⟩⟩
      have s6 := same_upd (o := HO.tup [.str "order", .int 5]) nk1
      refine ⟨⟨_, _, _, rfl⟩, fun b o e => s6 _ _ ?_, s6 _ _ ((upd_ne nrs.symm).trans hsp2), us ++ [.ref u], s6 _ _ upd_same, ?_⟩
      · rw [upd_ne (ne_of_none e nr)]
        exact s45 _ _ (s3 _ _ e)
      · rw [List.take_add_one, ei]
        exact Paired.snoc (Paired.mapP hru fun _ _ z => z.keep (((tk_of s45).trans k).trans (tk_of s6))) ⟨u, rfl, s6 _ _ (k _ _ hu)⟩
    · rintro σ H1 ⟨⟨x4, x5, x6, rfl⟩, s3, hsp, us, hus, hru⟩
      rw [List.length_map, hl, List.take_of_length_le (Nat.le_refl _)] at hru
      exact ⟨_, rfl, q H1 r us s3 nr hus hru⟩
end
abbrev s_Net_text : Stmt := inClass (top 16) 5
abbrev N_Net_text : List Str := ["self", "lines", "source", "target", "first", "days", "delay"]
abbrev P_Net_text : List Str := ["self"]
theorem sc_Net_text : FnScope N_Net_text P_Net_text (defScope s_Net_text) := ⟨rfl, rfl, rfl, by decide +kernel, rfl, by decide +kernel, by decide +kernel⟩
/-! ### the text of a net -/
section
variable {P : Program} {w : World} {K : PySem.W.Frag} {mg : Str → Option Value} {base : Heap}
/-- the text of a net -/
def spText (C : Addr) : Sp := fun vs H Q _ => ∃ (x t : Addr) (p h : Nat) (os : List Od) (F : List Addr), vs = [.ref x] ∧ NetAt C H x p h os t F ∧ NetOk p h os ∧ ∀ H', Same H H' → Q (.str (textOf p h os)) H'
theorem log_small {n : Nat} (h : n ≤ 30) : ((n : Int)).natAbs.log2 < 1920 := by
  have : ((n : Int)).natAbs = n := Int.natAbs_natCast n
  rw [this]
  by_cases c : n = 0
  · subst c; decide
  · have h1 : n.log2 < 5 := (Nat.log2_lt c).mpr (Nat.lt_of_le_of_lt h (by decide))
    omega
theorem len_app (a b : Str) : (a ++ b).length = a.length + b.length := by
  rw [TL.len_tl, TL.tl_append, List.length_append, ← TL.len_tl, ← TL.len_tl]
theorem len_sp : (" " : Str).length = 1 := by decide +kernel
theorem len_net4 : (Str.empty ++ ("net " : Str)).length = 4 := by decide +kernel
theorem len_ord6 : (Str.empty ++ ("order " : Str)).length = 6 := by decide +kernel
theorem ok_text {f C : Addr} {fd : FuncData} (F : Fun K "text" "Net.text" s_Net_text f fd) (T : NetT K C) : FnOk P w K mg base CX0 2 f fd P_Net_text (spText C) := by
  refine F.ok sc_Net_text (fun vs H Q E h => ?_) (fun cdv A outer s H vs Q E hr h => ?_)
  · obtain ⟨x, t, p, h, os, F, rfl, _⟩ := h
    rfl
  · obtain ⟨x, t, p, h, os, F, rfl, Nt, nok, q⟩ := h
    refine ⟨_, pss_cons (ps_set (i := 1) sc_Net_text.nd rfl (.inl rfl) (pe_lst (pa_cons (pe_joined (.cons pe_str (.cons (pe_fmt (pe_fld (pv 0) rfl)) (.cons pe_str (.cons (pe_fmt (pe_fld (pv 0) rfl)) .nil))))) pa_nil)))
      (pss_cons (ps_for PassesOwn.never rfl (pi_tup (pe_fld (pv 0) rfl)) (pg_tup (by rfl) (pgs_cons (pg_name (i := 2) sc_Net_text.nd rfl (.inl rfl)) (pgs_cons (pg_name (i := 3) sc_Net_text.nd rfl (.inl rfl)) (pgs_cons (pg_name (i := 4) sc_Net_text.nd rfl (.inl rfl)) (pgs_cons (pg_name (i := 5) sc_Net_text.nd rfl (.inl rfl)) (pgs_cons (pg_name (i := 6) sc_Net_text.nd rfl (.inl rfl)) pgs_nil))))))
        (pss_one (ps_expr (pe_bm PySem.F.plainAttrs_list PySem.F.slot_list_append PySem.F.type_list_append mt_append (pv 1) (pa_cons (pe_joined (.cons pe_str (.cons (pe_fmt (pv 2)) (.cons pe_str (.cons (pe_fmt (pv 3)) (.cons pe_str (.cons (pe_fmt (pv 4)) (.cons pe_str (.cons (pe_fmt (pv 5)) (.cons pe_str (.cons (pe_fmt (pv 6)) .nil))))))))))) pa_nil)))))
      (pss_one (ps_ret (pe_join pe_str (pv 1))))), ?_⟩
    obtain ⟨dx, fl, as, _, hx, ⟨ts, ht, hP⟩, _⟩ := id Nt
    have p30 := nok.p30; have h10 := nok.h10; have ol := nok.len
    have hp2 := (nT_ok p30).2.2.1
    have hh2 := (nT_ok (show h ≤ 30 by omega)).2.2.1
    refine ⟨_, rfl, by rw [len_net4, sizeLine_eq]; omega, ?_⟩
    refine ⟨_, rfl, x, C, dx, _, _, rfl, hx, T.cl, T.nP, nf_pe, .inr ⟨_, rfl, log_small p30, nT p, rfl, ?_, ?_⟩⟩
    · rw [len_app, len_net4, sizeLine_eq]
      omega
    refine ⟨_, rfl, ?_, ?_⟩
    · rw [len_app, len_app, len_net4, len_sp, sizeLine_eq]
      omega
    refine ⟨_, rfl, x, C, dx, _, _, rfl, hx, T.cl, T.nH, nf_ho, .inr ⟨_, rfl, log_small (show h ≤ 30 by omega), nT h, rfl, ?_, ?_⟩⟩
    · rw [len_app, len_app, len_app, len_net4, len_sp, sizeLine_eq]
      omega
    have e1 : (((Str.empty ++ "net " : Str) ++ nT p) ++ " ") ++ nT h = lineNet p h := by
      unfold lineNet
      rw [join3, cat_net]
    refine ⟨(by show 1 ≤ sizeLine; decide), fun L nL => ?_⟩
    rw [show (V.str ((((Str.empty ++ "net ") ++ nT p) ++ " ") ++ nT h)) = V.str (lineNet p h) by rw [e1]]
    have s1 := same_upd (o := HO.lst [.str (lineNet p h)]) nL
    refine ⟨_, rfl, x, C, dx, _, _, rfl, s1 _ _ hx, T.cl, T.nO, nf_or, t, rfl, ⟨_, SqT.of (s1 _ _ ht)⟩, ?_⟩
    refine for_tup (K := K) (a := t) (xs := ts) (fun i σ H' => (∃ x2 x3 x4 x5 x6, σ = [some (.ref x), some (.ref L), x2, x3, x4, x5, x6]) ∧ H' = upd H L (.lst ((lineNet p h :: (os.take i).map lineOrd).map V.str)))
      ⟨⟨_, _, _, _, _, rfl⟩, rfl⟩ (fun i σ H' _ ⟨_, e⟩ => by rw [e]; exact SqT.of (same_upd nL _ _ ht)) ?_ ?_
    · rintro i v σ H1 hi ⟨⟨x2, x3, x4, x5, x6, rfl⟩, rfl⟩
      have hl := hP.length
      have lt : i < os.length := by rw [← hl]; exact (List.getElem?_eq_some_iff.mp hi).1
      have ei := List.getElem?_eq_getElem lt
      obtain ⟨v', hv', u, ev, hu⟩ := Paired.get? (i := i) hP ei
      obtain rfl : v' = v := Option.some.inj (hv'.symm.trans hi)
      subst ev
      have hmem := List.mem_of_getElem? ei
      generalize os[i] = o at ei hu hmem
      obtain ⟨b1, b2, b3, b4, b5⟩ := od_le nok hmem
      have c1 := (nT_ok b1).2.2.1
      have c2 := (nT_ok b2).2.2.1
      have c3 := (nT_ok b3).2.2.1
      have c4 := (nT_ok b4).2.2.1
      have c5 := (nT_ok b5).2.2.1
      have sL := same_upd (o := HO.lst ((lineNet p h :: (os.take i).map lineOrd).map V.str)) nL
      refine ⟨u, _, rfl, SqT.of (sL _ _ hu), rfl, _, _, rfl, _, _, rfl, _, _, rfl, _, _, rfl, _, _, rfl, rfl, ?_⟩
      refine ⟨_, rfl, .inl ⟨rfl, _, SqL.of upd_same⟩, ?_⟩
      refine ⟨_, rfl, by rw [len_ord6, sizeLine_eq]; omega, _, rfl, .inr ⟨_, rfl, log_small b1, nT o.s, rfl, by rw [len_app, len_ord6, sizeLine_eq]; omega, _, rfl, by rw [len_app, len_app, len_ord6, len_sp, sizeLine_eq]; omega, ?_⟩⟩
      refine ⟨_, rfl, .inr ⟨_, rfl, log_small b2, nT o.t, rfl, by rw [len_app, len_app, len_app, len_ord6, len_sp, sizeLine_eq]; omega, _, rfl, by rw [len_app, len_app, len_app, len_app, len_ord6, len_sp, sizeLine_eq]; omega, ?_⟩⟩
      refine ⟨_, rfl, .inr ⟨_, rfl, log_small b3, nT o.f, rfl, by rw [len_app, len_app, len_app, len_app, len_app, len_ord6, len_sp, sizeLine_eq]; omega, _, rfl, by rw [len_app, len_app, len_app, len_app, len_app, len_app, len_ord6, len_sp, sizeLine_eq]; omega, ?_⟩⟩
      refine ⟨_, rfl, .inr ⟨_, rfl, log_small b4, nT o.n, rfl, by rw [len_app, len_app, len_app, len_app, len_app, len_app, len_app, len_ord6, len_sp, sizeLine_eq]; omega, _, rfl, by rw [len_app, len_app, len_app, len_app, len_app, len_app, len_app, len_app, len_ord6, len_sp, sizeLine_eq]; omega, ?_⟩⟩
      refine ⟨_, rfl, .inr ⟨_, rfl, log_small b5, nT o.e, rfl, by rw [len_app, len_app, len_app, len_app, len_app, len_app, len_app, len_app, len_app, len_ord6, len_sp, sizeLine_eq]; omega, ?_⟩⟩
      refine ⟨L, _, _, rfl, rfl, upd_same, ?_, ⟨_, _, _, _, _, rfl⟩, ?_⟩
      · rw [List.length_map, List.length_cons, List.length_map, List.length_take]
        exact small1000 (by omega)
      · rw [upd_upd, List.take_add_one, ei]
        have e2 : ((((((((((Str.empty ++ "order " : Str) ++ nT o.s) ++ " ") ++ nT o.t) ++ " ") ++ nT o.f) ++ " ") ++ nT o.n) ++ " ") ++ nT o.e) = lineOrd o := by
          unfold lineOrd wordsO
          rw [join6, cat_order]
        show upd H L (.lst (((lineNet p h :: (os.take i).map lineOrd).map V.str) ++ [V.str ((((((((((Str.empty ++ "order " : Str) ++ nT o.s) ++ " ") ++ nT o.t) ++ " ") ++ nT o.f) ++ " ") ++ nT o.n) ++ " ") ++ nT o.e)])) = _
        rw [e2, Option.toList_some, List.map_append, List.map_cons, List.map_cons, List.map_append]
        rfl
    · rintro σ H1 ⟨⟨x2, x3, x4, x5, x6, rfl⟩, rfl⟩
      rw [hP.length, List.take_length]
      refine ⟨⟨_, rfl⟩, _, rfl, "\n", L, linesOf p h os, rfl, rfl, .inl (SqL.of upd_same), ?_, q _ (same_upd nL)⟩
      have h1 := lines_sum nok
      have h2 : ("\n" : Str).length = 1 := by decide +kernel
      have h3 : (linesOf p h os).length ≤ 21 := by
        show (os.map lineOrd).length.succ ≤ 21
        rw [List.length_map]
        omega
      rw [h2]
      omega
end
abbrev s_Net_parse : Stmt := inClass (top 16) 6
abbrev N_Net_parse : List Str := ["cls", "text", "rows", "period", "houses"]
abbrev P_Net_parse : List Str := ["cls", "text"]
theorem sc_Net_parse : FnScope N_Net_parse P_Net_parse (defScope s_Net_parse) := ⟨rfl, rfl, rfl, by decide +kernel, rfl, by decide +kernel, by decide +kernel⟩
/-! ### a net of its text -/
section
variable {P : Program} {w : World} {K : PySem.W.Frag} {mg : Str → Option Value} {base : Heap}
/-- a net of its text -/
def spParse (C : Addr) : Sp := fun vs H Q _ => ∃ (p h : Nat) (os : List Od), vs = [.ref C, .str (textOf p h os)] ∧ NetOk p h os ∧ ∀ H' x t F, Same H H' → (∀ b ∈ F, H b = none) → NetAt C H' x p h os t F → Q (.ref x) H'
def rowsOf (p h : Nat) (os : List Od) : List (List Nat) := [p, h] :: os.map fun o => [o.s, o.t, o.f, o.n, o.e]
theorem lines_ok {p h : Nat} {os : List Od} (k : NetOk p h os) : ∀ i l r, (linesOf p h os)[i]? = some l → (rowsOf p h os)[i]? = some r → LineOk i l r := by
  have hp30 := k.p30; have hh10 := k.h10
  intro i l r hl hr
  cases i with
  | zero =>
    obtain rfl : lineNet p h = l := Option.some.inj hl
    obtain rfl : [p, h] = r := Option.some.inj hr
    refine ⟨"net", [nT p, nT h], [some p, some h], Nat.le_trans (len_net hp30 (by omega)) (by decide), split_net hp30 (by omega), by show 2 ≤ 60; decide, .cons (wk_nT hp30) (.cons (wk_nT (by omega)) .nil), ?_⟩
    rfl
  | succ i =>
    have h1 : (os.map lineOrd)[i]? = some l := hl
    have h2 : (os.map fun o => [o.s, o.t, o.f, o.n, o.e])[i]? = some r := hr
    rw [List.getElem?_map] at h1 h2
    obtain ⟨o, ho, rfl⟩ := Option.map_eq_some_iff.mp h1
    rw [ho] at h2
    obtain rfl : [o.s, o.t, o.f, o.n, o.e] = r := Option.some.inj h2
    have hm := List.mem_of_getElem? ho
    obtain ⟨b1, b2, b3, b4, b5⟩ := od_le k hm
    refine ⟨"order", wordsO o, [some o.s, some o.t, some o.f, some o.n, some o.e], Nat.le_trans (len_ord k hm) (by decide), split_ord k hm, by show 5 ≤ 60; decide, .cons (wk_nT b1) (.cons (wk_nT b2) (.cons (wk_nT b3) (.cons (wk_nT b4) (.cons (wk_nT b5) .nil)))), ?_⟩
    rw [if_neg (Nat.succ_ne_zero i), if_neg (Nat.succ_ne_zero i)]
    rfl
theorem rows_ords {H : Hp} {us : List V} {os : List Od} (h : Paired (RowTup H) us (os.map fun o => [o.s, o.t, o.f, o.n, o.e])) : Paired (OrdAt H) us os := by
  induction os generalizing us with
  | nil =>
    cases h
    exact .nil
  | cons o os ih =>
    rw [List.map_cons] at h
    cases h with
    | cons r t =>
      obtain ⟨u, rfl, hu⟩ := r
      exact .cons ⟨u, rfl, hu⟩ (ih t)
theorem ok_parse {f C fI : Addr} {fd fdI : FuncData} (F : Fun K "parse" "Net.parse" s_Net_parse f fd) (B : Blt mg) (DR : Df P w K mg base "read_rows" 4 P_read_rows spRows) (M : Mk K C fI) (GI : FnOk P w K mg base CX0 5 fI fdI P_Net_init (spInit C)) (bI : Binds K fdI P_Net_init []) : FnOk P w K mg base CX0 7 f fd P_Net_parse (spParse C) := by
  obtain ⟨fR, fdR, gR, kR, bR, GR⟩ := DR
  refine F.ok sc_Net_parse (fun vs H Q E h => ?_) (fun cdv A outer s H vs Q E hr h => ?_)
  · obtain ⟨p, h, os, rfl, _⟩ := h
    rfl
  · obtain ⟨p, h, os, rfl, nok, q⟩ := h
    have hr3 : Room 4 _ := hr.mono (by decide)
    refine ⟨_, pss_cons (ps_set (i := 2) sc_Net_parse.nd rfl (.inl rfl) (pe_call GR hr3 (by rfl) gR kR bR .nil pass0 (pa_cons (pv 1) pa_nil)))
      (pss_cons (ps_asg (pe_ix ix_list (pv 2) pe_int (fun _ _ => rfl)) (pg_tup (by rfl) (pgs_cons (pg_name (i := 3) sc_Net_parse.nd rfl (.inl rfl)) (pgs_cons (pg_name (i := 4) sc_Net_parse.nd rfl (.inl rfl)) pgs_nil))))
      (pss_one (ps_ret (pe_makeL (i := 0) M GI hr rfl (.inl rfl) bI .nil pass0 (pa_cons (pv 3) (pa_cons (pv 4) (pa_cons (pe_callTy call_tuple_of (by rfl) B.tuple (by decide +kernel) (pa_cons (pe_slice sl_list (pv 2) (po_some pe_int) po_none) pa_nil)) pa_nil))))))), ?_⟩
    have hrl : (rowsOf p h os).length ≤ 100 := by
      show (os.map _).length.succ ≤ 100
      rw [List.length_map]
      have := nok.len
      omega
    refine ⟨_, rfl, textOf p h os, linesOf p h os, rowsOf p h os, rfl, Nat.le_trans (len_text nok) (by decide), split_text nok, ?_, hrl, lines_ok nok, fun H1 r us s1 nr hr1 hus => ?_⟩
    · show (os.map lineOrd).length.succ = (os.map _).length.succ
      rw [List.length_map, List.length_map]
    cases hus with
    | cons hu0 hus =>
    rename_i v0 us
    obtain ⟨u0, rfl, hu0⟩ := hu0
    refine ⟨_, rfl, r, _, 0, _, rfl, rfl, SqL.of hr1, atI_nat (j := 0) rfl, u0, _, rfl, SqT.of hu0, rfl, _, _, rfl, _, _, rfl, rfl, ?_⟩
    refine ⟨rfl, _, rfl, _, rfl, _, rfl, 1, rfl, r, _, rfl, SqL.of hr1, fun cl ncl => ?_⟩
    rw [show cutV (V.ref u0 :: us) (some (1 : Int)) none = (V.ref u0 :: us).drop 1 from cut_from (n := 1)]
    have s2 := same_upd (o := HO.lst ((V.ref u0 :: us).drop 1)) ncl
    refine ⟨cl, us, rfl, .inl ⟨SqL.of upd_same, fun tt ntt => ?_⟩⟩
    have s3 := same_upd (o := HO.tup us) ntt
    have s13 := s1.trans (s2.trans s3)
    have hO : OrdsTup (upd (upd H1 cl (.lst ((V.ref u0 :: us).drop 1))) tt (.tup us)) tt os := ⟨us, upd_same, Paired.mapP (rows_ords hus) fun _ _ z => z.keep (tk_of (s2.trans s3))⟩
    generalize (upd (upd H1 cl (.lst ((V.ref u0 :: us).drop 1))) tt (.tup us)) = H3 at s13 hO
    intro x dx nx ndx nex
    have s0 : Same H3 (upd (upd H3 dx (.own x)) x (.ins C dx [])) := same_updN (same_upd ndx) nx
    exact ⟨x, dx, tt, p, h, os, H3, rfl, nok, hO.keep (tk_of s0), s0, nx, upd_same, fun H' F s1 nF N => ⟨rfl, q H' x tt F (s13.trans s1) (fun b hb => s13.free (nF b hb)) N⟩⟩
end
abbrev s_law : Stmt := top 28
abbrev N_law : List Str := ["_law_script", "_law_d", "_law_step", "_law_parts_here", "_law_lines", "_law_text", "_law_net_here", "_law_order_here", "_law_number"]
abbrev P_law : List Str := ["_law_script"]
theorem sc_law : FnScope N_law P_law (defScope s_law) := ⟨rfl, rfl, rfl, by decide +kernel, rfl, by decide +kernel, by decide +kernel⟩
open ClX
theorem ordsEqv2 {H : Hp} {t t' : Addr} {os : List Od} (h : OrdsTup H t os) (h' : OrdsTup H t' os) (l : os.length ≤ 20) : Eqv 2 H (.ref t) (.ref t') := by
  obtain ⟨ts, ht, hP⟩ := h
  obtain ⟨ts', ht', hP'⟩ := h'
  refine .inr (.inl ⟨t, t', ts, ts', rfl, rfl, ht, ht', by rw [hP.length]; omega, ?_⟩)
  clear l ht ht'
  induction hP generalizing ts' with
  | nil => cases hP'; exact .nil
  | cons r _ ih =>
    cases hP' with
    | cons r' t' =>
      refine .cons ?_ (ih _ t')
      obtain ⟨u, rfl, hu⟩ := r
      obtain ⟨u', rfl, hu'⟩ := r'
      exact .inr (.inl ⟨u, u', _, _, rfl, rfl, hu, hu', by show 5 ≤ 1000; decide, .cons Eqv.int (.cons Eqv.int (.cons Eqv.int (.cons Eqv.int (.cons Eqv.int .nil))))⟩)
def owl (o : Od) : List Nat := [o.s, o.t, o.f, o.n, o.e]
theorem owl_le {p h : Nat} {os : List Od} {o : Od} (k : NetOk p h os) (ho : o ∈ os) : ∀ n ∈ owl o, n ≤ 30 := by
  obtain ⟨h1, h2, h3, h4, h5⟩ := od_le k ho
  intro n hn
  unfold owl at hn
  simp only [List.mem_cons, List.not_mem_nil, or_false] at hn
  rcases hn with rfl | rfl | rfl | rfl | rfl <;> assumption
theorem Eqv.str {n : Nat} {H : Hp} {x : Str} : Eqv n H (.str x) (.str x) := Eqv.flat rfl (.inr (.inr (.inr ⟨x, rfl⟩)))
section
variable {P : Program} {w : World} {K : PySem.W.Frag} {mg : Str → Option Value} {base : Heap}
set_option maxHeartbeats 1000000 in
theorem ok_law {f C fP fT pT : Addr} {mc : Value} {pP : Addr} {fd fdP fdT : FuncData} (F : Fun K "law" "law" s_law f fd) (B : Blt mg) (T : NetT K C) (gC : mg "Net" = some (.ref C))
    (DR : Df P w K mg base "_law_random" 2 P_l_random (spRandom K)) (DP : Df P w K mg base "_law_parts" 4 P_l_parts spParts) (DN : Df P w K mg base "_law_net" 7 P_l_net (spNet C)) (DE : ∀ n, Df P w K mg base "_law_equal" (n + 2) P_l_equal (spEqual n))
    (rC : CRead K C mc) (cP : CMet K C mc "parse" pP fP) (GP : FnOk P w K mg base CX0 7 fP fdP P_Net_parse (spParse C)) (bP : Binds K fdP P_Net_parse [])
    (pO : PropOf K C "text" pT fT) (GT : FnOk P w K mg base CX0 2 fT fdT P_Net_text (spText C)) (bT : Binds K fdT P_Net_text []) : FnOk P w K mg base CX0 9 f fd P_law (spLaw K) := by
  obtain ⟨f1, d1, g1, k1, b1, G1⟩ := DR
  obtain ⟨f3, d3, g3, k3, b3, G3⟩ := DP
  obtain ⟨f4, d4, g4, k4, b4, G4⟩ := DN
  obtain ⟨e1, ed1, ge1, ke1, be1, GE1⟩ := DE 1
  obtain ⟨e3, ed3, ge3, ke3, be3, GE3⟩ := DE 3
  have FP := GP.raw bP .nil
  refine F.ok sc_law (fun vs H Q E h => ?_) (fun cdv A outer s H vs Q E hr h => ?_)
  · obtain ⟨a, ns, rfl, _⟩ := h
    rfl
  · obtain ⟨a, ns, rfl, hS, hlen, q⟩ := h
    have hr1 : Room 2 _ := hr.mono (by decide)
    have hr2 : Room 3 _ := hr.mono (by decide)
    have hr3 : Room 4 _ := hr.mono (by decide)
    have hr4 : Room 5 _ := hr.mono (by decide)
    have hr6 : Room 7 _ := hr.mono (by decide)
    refine ⟨_, pss_cons (ps_set (i := 1) sc_law.nd rfl (.inl rfl) (pe_call G1 hr1 (by rfl) g1 k1 b1 .nil pass0 (pa_cons (pv 0) (pa_cons pe_int pa_nil))))
      (pss_cons (ps_for PassesOwn.never rfl (pi_range1 rfl B.range (pa_cons pe_int pa_nil)) (pg_name (i := 2) sc_law.nd rfl (.inl rfl))
        (pss_cons (ps_set (i := 3) sc_law.nd rfl (.inl rfl) (pe_call G3 hr3 (by rfl) g3 k3 b3 .nil pass0 (pa_cons (pv 1) (pa_cons pe_int pa_nil))))
        (pss_cons (ps_set (i := 4) sc_law.nd rfl (.inl rfl) (pe_lst (pa_cons (pe_op op_add_str (pe_op op_add_str (pe_op op_add_str pe_str (pe_callTy call_str_int (by rfl) B.str (by decide +kernel) (pa_cons (pe_ix ix_tup (pv 3) pe_int (fun _ _ => rfl)) pa_nil))) pe_str)
            (pe_callTy call_str_int (by rfl) B.str (by decide +kernel) (pa_cons (pe_ix ix_tup (pv 3) pe_int (fun _ _ => rfl)) pa_nil))) pa_nil)))
        (pss_cons (ps_set (i := 4) sc_law.nd rfl (.inl rfl) (pe_op op_cat (pv 4) (pe_lc (own := [("_law_order_here", 7)]) (g := gName 7) (tt := tYes)
              (te := tM1 (fun x xs H Q => ∃ a p, ∃ ys : List Str, x = .str a ∧ xs = [.ref p] ∧ (SqL K H p (ys.map V.str) ∨ SqT K H p (ys.map V.str)) ∧ (ys.map (·.length)).sum + ys.length * a.length ≤ 16777216 ∧ Q (.str (Txt.join a ys)) H) (tC (.str " "))
                (tOp rCat (tLst (tCons (tC (.str "order")) tNil)) (tLc (iTup K (tVar 7)) (gName 8) tYes (tCB (fun xs H Q => ∃ i, xs = [V.int i] ∧ i.natAbs.log2 < 1920 ∧ Q (.str (toString i)) H) (tCons (tVar 8) tNil)) [8]))) (by rfl) sc_law.nd (pi_tup (pe_ix ix_tup (pv 3) pe_int (fun _ _ => rfl)))
              (blkOk_by (N := N_law) (sc := defScope s_law) (by decide +kernel)) (fun _ _ _ _ _ => pg_name (i := 7) sc_law.nd rfl (.inl rfl)) (fun _ _ _ _ _ => pts_nil)
              (fun _ _ _ _ _ => pe_join pe_str (pe_op op_cat (pe_lst (pa_cons pe_str pa_nil)) (pe_lc (own := [("_law_number", 8)]) (g := gName 8) (tt := tYes) (te := tCB (fun xs H Q => ∃ i, xs = [V.int i] ∧ i.natAbs.log2 < 1920 ∧ Q (.str (toString i)) H) (tCons (tVar 8) tNil)) (by rfl) sc_law.nd (pi_tup (pv 7))
                (blkOk_by (N := N_law) (sc := { kind := .function, names := [(Str.ofString ".0", .local), (Str.ofString "_law_order_here", .local)], isGenerator := false, isCoroutine := false }) (by decide +kernel)) (fun _ _ _ _ _ => pg_name (i := 8) sc_law.nd rfl (.inl rfl)) (fun _ _ _ _ _ => pts_nil) (fun _ _ _ _ _ => pe_callTy call_str_int (by rfl) B.str (by decide +kernel) (pa_cons (pv 8) pa_nil))))))))
        (pss_cons (ps_set (i := 5) sc_law.nd rfl (.inl rfl) (pe_join pe_str (pv 4)))
        (pss_cons (ps_set (i := 6) sc_law.nd rfl (.inl rfl) (pe_cmeth (pe_glob (v := .ref C) rfl gC rfl) rC cP FP hr6 pass0 (pa_cons (pv 5) pa_nil)))
        (pss_cons (ps_if (pt_not (pt_val (pe_call GE1 hr2 (by rfl) ge1 ke1 be1 .nil pass0 (pa_cons (pe_lst (pa_cons (pe_prop (pv 6) T.cl pO GT hr2 bT .nil pass0 rfl) (pa_cons (pe_prop (pe_call G4 hr6 (by rfl) g4 k4 b4 .nil pass0 (pa_cons (pv 3) pa_nil)) T.cl pO GT hr2 bT .nil pass0 rfl) pa_nil)))
            (pa_cons (pe_lst (pa_cons (pv 5) (pa_cons (pv 5) pa_nil))) pa_nil))))) (pss_one (ps_ret pe_bl)) pss_nil)
        (pss_one (ps_if (pt_not (pt_val (pe_call GE3 hr4 (by rfl) ge3 ke3 be3 .nil pass0 (pa_cons (pe_lst (pa_cons (pe_fld (pv 6) rfl) (pa_cons (pe_fld (pv 6) rfl) (pa_cons (pe_fld (pv 6) rfl) pa_nil))))
            (pa_cons (pe_callTy call_list_of (by rfl) B.list (by decide +kernel) (pa_cons (pv 3) pa_nil)) pa_nil))))) (pss_one (ps_ret pe_bl)) pss_nil)))))))))
      (pss_one (ps_ret pe_bl))), ?_⟩
    refine ⟨_, rfl, a, ns, 17, rfl, hS, hlen, by decide, fun H1 d s1 nd D1 => ?_⟩
    refine ⟨5, rfl, by decide, by decide, for_range (lo := 0) (n := (5 : Int).toNat) (fun i σ H' => (∃ y2 y3 y4 y5 y6, σ = [some (.ref a), some (.ref d), y2, y3, y4, y5, y6, none, none]) ∧ DAt H' d) ⟨⟨_, _, _, _, _, rfl⟩, D1⟩ ?_ (fun σ H' _ => q H')⟩
    rintro st σ H2 hst ⟨⟨y2, y3, y4, y5, y6, rfl⟩, D2⟩
    refine ⟨_, rfl, d, 20, rfl, D2, by decide, fun H3 ap p h os ok hos b3 D3 nap ⟨t, hap, hO⟩ => ?_⟩
    have p30 := ok.p30; have h10 := ok.h10; have ol := ok.len
    have hp2 := (nT_ok p30).2.2.1
    have hh2 := (nT_ok (show h ≤ 30 by omega)).2.2.1
    have len_net4' : ("net " : Str).length = 4 := by decide +kernel
    -- the first line
    refine ⟨_, rfl, ap, _, 0, _, rfl, rfl, SqT.of hap, atI_nat (j := 0) rfl, (p : Int), rfl, log_small p30, "net ", nT p, rfl, rfl, by rw [len_net4', sizeLine_eq]; omega, ?_⟩
    refine ⟨_, " ", rfl, rfl, by rw [len_app, len_net4', len_sp, sizeLine_eq]; omega, ?_⟩
    refine ⟨_, rfl, ap, _, 1, _, rfl, rfl, SqT.of hap, atI_nat (j := 1) rfl, (h : Int), rfl, log_small (show h ≤ 30 by omega), _, nT h, rfl, rfl, by rw [len_app, len_app, len_net4', len_sp, sizeLine_eq]; omega, (by show 1 ≤ sizeLine; decide), fun L1 nL1 => ?_⟩
    have e1 : (("net " : Str) ++ nT p ++ " ") ++ nT h = lineNet p h := by
      unfold lineNet
      rw [join3, cat_net']
    rw [e1]
    have sL1 := same_upd (o := HO.lst [.str (lineNet p h)]) nL1
    have hL1 : (upd H3 L1 (.lst [.str (lineNet p h)])) L1 = some (.lst [.str (lineNet p h)]) := upd_same
    have hap4 := sL1 _ _ hap
    have hO4 := hO.keep (tk_of sL1)
    have D4 := D3.but sL1
    generalize (upd H3 L1 (.lst [.str (lineNet p h)])) = H4 at hL1 hap4 hO4 D4
    obtain ⟨ts, ht, hP⟩ := id hO4
    have hPl := hP.length
    -- the other lines
    refine ⟨_, rfl, _, rfl, ap, _, 2, _, rfl, rfl, SqT.of hap4, atI_nat (j := 2) rfl, t, rfl, ⟨_, SqT.of ht⟩, fun D nD => ?_⟩
    refine lc_tup (K := K) (a := t) (xs := ts) (fun k H' => Same H4 H' ∧ H' D = some (.lst (((os.take k).map lineOrd).map V.str))) ⟨same_upd nD, upd_same⟩ (fun k H' _ ⟨s', _⟩ => SqT.of (s' _ _ ht)) ?_ ?_
    · rintro k v H5 hk ⟨s5, hD⟩
      have lt : k < os.length := by rw [← hPl]; exact (List.getElem?_eq_some_iff.mp hk).1
      have ek := List.getElem?_eq_getElem lt
      obtain ⟨v', hv', u, ev, hu⟩ := Paired.get? (i := k) hP ek
      obtain rfl : v' = v := Option.some.inj (hv'.symm.trans hk)
      subst ev
      have hmem := List.mem_of_getElem? ek
      generalize os[k] = o at ek hu hmem
      have hu5 := s5 _ _ hu
      refine ⟨rfl, ⟨_, rfl⟩, (by show 1 ≤ sizeLine; decide), fun l1 nl1 => ?_⟩
      have sl1 := same_upd (o := HO.lst [.str "order"]) nl1
      have hl1 : (upd H5 l1 (.lst [.str "order"])) l1 = some (.lst [.str "order"]) := upd_same
      have hu6 := sl1 _ _ hu5
      have hD6 := sl1 _ _ hD
      have s6 := s5.trans sl1
      generalize (upd H5 l1 (.lst [.str "order"])) = H6 at hl1 hu6 hD6 s6
      refine ⟨_, rfl, u, rfl, ⟨_, SqT.of hu6⟩, fun D2 nD2 => ?_⟩
      have nuD2 : u ≠ D2 := ne_of_none hu6 nD2
      refine lc_tup (K := K) (a := u) (xs := o.vs) (fun j H' => H' = upd H6 D2 (.lst ((((owl o).take j).map nT).map V.str))) rfl (fun j H' _ e => by rw [e]; exact SqT.of ((upd_ne nuD2).trans hu6)) ?_ ?_
      · rintro j v H' hj rfl
        have hj2 : (nints (owl o))[j]? = some v := hj
        unfold nints at hj2
        rw [List.getElem?_map] at hj2
        obtain ⟨n, hn, rfl⟩ := Option.map_eq_some_iff.mp hj2
        have hn30 := owl_le ok hmem n (List.mem_of_getElem? hn)
        have hj5 : j < 5 := (List.getElem?_eq_some_iff.mp hn).1
        refine ⟨rfl, _, rfl, (n : Int), rfl, log_small hn30, _, upd_same, ?_, ?_⟩
        · rw [List.length_map, List.length_map, List.length_take]
          exact small1000 (by omega)
        · rw [upd_upd, List.take_add_one, hn, List.map_append, List.map_append]
          rfl
      · rintro H' rfl
        rw [show (owl o).take o.vs.length = owl o from rfl]
        have sD2 := same_upd (o := HO.lst (((owl o).map nT).map V.str)) nD2
        refine ⟨l1, D2, _, _, rfl, rfl, sD2 _ _ hl1, upd_same, by show 1 + 5 ≤ sizeLine; decide, fun l3 nl3 => ?_⟩
        have sl3 := same_upd (o := HO.lst ([V.str "order"] ++ ((owl o).map nT).map V.str)) nl3
        have s7 := sD2.trans sl3
        have hD7 := s7 _ _ hD6
        refine ⟨" ", l3, ("order" : Str) :: wordsO o, rfl, rfl, .inl (SqL.of upd_same), ?_, _, hD7, ?_, fun b x e => ?_, ?_⟩
        · obtain ⟨b1, b2, b3, b4, b5⟩ := od_le ok hmem
          have c1 := (nT_ok b1).2.2.1
          have c2 := (nT_ok b2).2.2.1
          have c3 := (nT_ok b3).2.2.1
          have c4 := (nT_ok b4).2.2.1
          have c5 := (nT_ok b5).2.2.1
          have a6 : ("order" : Str).length = 5 := by decide +kernel
          unfold wordsO
          simp [a6, len_sp]
          omega
        · rw [List.length_map, List.length_map, List.length_take]
          exact small1000 (by omega)
        · rw [upd_ne (ne_of_none e nD)]
          exact s7 _ _ (s6 _ _ e)
        · rw [upd_same, List.take_add_one, ek, List.map_append, List.map_append]
          rfl
    rintro H5 ⟨s5, hD⟩
    rw [hPl, List.take_length] at hD
    have hL15 := s5 _ _ hL1
    refine ⟨L1, D, _, _, rfl, rfl, hL15, hD, ?_, fun L2 nL2 => ?_⟩
    · rw [List.length_map, List.length_map]
      exact Nat.le_of_lt (small1000 (by show 1 + os.length ≤ 1000; omega))
    have sL2 := same_upd (o := HO.lst ([V.str (lineNet p h)] ++ (os.map lineOrd).map V.str)) nL2
    have hL2 : (upd H5 L2 (.lst ([V.str (lineNet p h)] ++ (os.map lineOrd).map V.str))) L2 = some (.lst ((linesOf p h os).map V.str)) := upd_same
    have s6 := s5.trans sL2
    generalize (upd H5 L2 (.lst ([V.str (lineNet p h)] ++ (os.map lineOrd).map V.str))) = H6 at hL2 s6
    -- the text
    refine ⟨⟨_, rfl⟩, _, rfl, "\n", L2, linesOf p h os, rfl, rfl, .inl (SqL.of hL2), ?_, ?_⟩
    · have h1 := lines_sum ok
      have h2 : ("\n" : Str).length = 1 := by decide +kernel
      have h3 : (linesOf p h os).length ≤ 21 := by
        show (os.map lineOrd).length.succ ≤ 21
        rw [List.length_map]
        omega
      rw [h2]
      omega
    refine ⟨rfl, _, rfl, p, h, os, rfl, ok, fun H7 x t' F s7 nF N7 => ?_⟩
    have s47 := s6.trans s7
    obtain ⟨dx, fl, as, _, hx, hO', _⟩ := id N7
    -- both texts
    refine ⟨_, rfl, x, dx, _, rfl, hx, x, t', p, h, os, F, rfl, N7, ok, fun H8 s8 => ?_⟩
    have s48 := s47.trans s8
    refine ⟨_, rfl, ap, t, p, h, os, rfl, s48 _ _ hap4, hO4.keep (tk_of s48), ok, fun H9 x2 F2 s9 nF2 N9 => ?_⟩
    obtain ⟨dx2, _, _, _, hx2, _⟩ := id N9
    refine ⟨x2, dx2, _, rfl, hx2, x2, t, p, h, os, F2, rfl, N9, ok, fun H10 s10 => ⟨(by show 2 ≤ sizeLine; decide), fun a1 na1 => ?_⟩⟩
    have sa1 := same_upd (o := HO.lst [.str (textOf p h os), .str (textOf p h os)]) na1
    refine ⟨_, rfl, _, rfl, (by show 2 ≤ sizeLine; decide), fun a2 na2 => ?_⟩
    have sa2 := same_upd (o := HO.lst [.str (textOf p h os), .str (textOf p h os)]) na2
    refine ⟨_, _, rfl, .inr (.inr ⟨a1, a2, _, _, rfl, rfl, sa2 _ _ upd_same, upd_same, by show 2 ≤ 1000; decide, .cons Eqv.str (.cons Eqv.str .nil)⟩), fun H11 s11 => ⟨_, rfl, iteF ?_⟩⟩
    have s7B := s8.trans (s9.trans (s10.trans (sa1.trans (sa2.trans s11))))
    have s4B := s47.trans s7B
    have NB := N7.same s7B
    obtain ⟨dxB, flB, asB, _, hxB, hOB, _⟩ := id NB
    have hapB := s4B _ _ hap4
    have hOtB := hO4.keep (tk_of s4B)
    -- the parts
    refine ⟨_, rfl, x, C, dxB, _, _, rfl, hxB, T.cl, T.nP, nf_pe, _, rfl, x, C, dxB, _, _, rfl, hxB, T.cl, T.nH, nf_ho, _, rfl, x, C, dxB, _, _, rfl, hxB, T.cl, T.nO, nf_or, (by show 3 ≤ sizeLine; decide), fun a3 na3 => ?_⟩
    have sa3 := same_upd (o := HO.lst [.int p, .int h, .ref t']) na3
    refine ⟨_, rfl, ap, _, rfl, .inr (SqT.of (sa3 _ _ hapB)), fun a4 na4 => ?_⟩
    have sa4 := same_upd (o := HO.lst [.int p, .int h, .ref t]) na4
    refine ⟨_, _, rfl, .inr (.inr ⟨a3, a4, _, _, rfl, rfl, sa4 _ _ upd_same, upd_same, by show 3 ≤ 1000; decide, .cons Eqv.int (.cons Eqv.int (.cons ?_ .nil))⟩), fun H12 s12 => ⟨_, rfl, iteF ⟨⟨_, _, _, _, _, rfl⟩, ?_⟩⟩⟩
    · exact ordsEqv2 (hOB.keep (tk_of (sa3.trans sa4))) (hOtB.keep (tk_of (sa3.trans sa4))) ol
    · exact D4.but (s4B.trans (sa3.trans (sa4.trans s12)))
end
set_option maxHeartbeats 0 in
theorem all_mk {l : PySem.W.OpenLaw} {w : World} {K : PySem.W.Frag} {h : Heap} {mg : Str → Option Value} {fa : Addr} (X : K.In h) (G : h.Ns mainGlobals mg) (hfa : mg "law" = some (.ref fa))
    {C_Net : Addr}
    {f1 : Addr} {od1 an1 : Option Addr} {sl1 : Array (Option Value)} {oc1 kV1 dc1 pm1 cd1 ct1 : Value}
    {f2 : Addr} {od2 an2 : Option Addr} {sl2 : Array (Option Value)} {oc2 kV2 dc2 pm2 cd2 ct2 : Value}
    {f3 : Addr} {od3 an3 : Option Addr} {sl3 : Array (Option Value)} {oc3 kV3 dc3 pm3 cd3 ct3 : Value}
    {f4 : Addr} {od4 an4 : Option Addr} {sl4 : Array (Option Value)} {oc4 kV4 dc4 pm4 cd4 ct4 : Value}
    {f5 : Addr} {od5 an5 : Option Addr} {sl5 : Array (Option Value)} {oc5 kV5 dc5 pm5 cd5 ct5 : Value}
    {f6 : Addr} {od6 an6 : Option Addr} {sl6 : Array (Option Value)} {oc6 kV6 dc6 pm6 cd6 ct6 : Value}
    {f7 : Addr} {od7 an7 : Option Addr} {sl7 : Array (Option Value)} {oc7 kV7 dc7 pm7 cd7 ct7 : Value}
    {f8 : Addr} {od8 an8 : Option Addr} {sl8 : Array (Option Value)} {oc8 kV8 dc8 pm8 cd8 ct8 : Value}
    {f9 : Addr} {od9 an9 : Option Addr} {sl9 : Array (Option Value)} {oc9 kV9 dc9 pm9 cd9 ct9 : Value}
    {f10 : Addr} {od10 an10 : Option Addr} {sl10 : Array (Option Value)} {oc10 kV10 dc10 pm10 cd10 ct10 : Value}
    {f11 : Addr} {od11 an11 : Option Addr} {sl11 : Array (Option Value)} {oc11 kV11 dc11 pm11 cd11 ct11 : Value}
    {f12 : Addr} {od12 an12 : Option Addr} {sl12 : Array (Option Value)} {oc12 kV12 dc12 pm12 cd12 ct12 : Value}
    {f13 : Addr} {od13 an13 : Option Addr} {sl13 : Array (Option Value)} {oc13 kV13 dc13 pm13 cd13 ct13 : Value}
    {f14 : Addr} {od14 an14 : Option Addr} {sl14 : Array (Option Value)} {oc14 kV14 dc14 pm14 cd14 ct14 : Value}
    {f15 : Addr} {od15 an15 : Option Addr} {sl15 : Array (Option Value)} {oc15 kV15 dc15 pm15 cd15 ct15 : Value}
    {f16 : Addr} {od16 an16 : Option Addr} {sl16 : Array (Option Value)} {oc16 kV16 dc16 pm16 cd16 ct16 : Value}
    {f17 : Addr} {od17 an17 : Option Addr} {sl17 : Array (Option Value)} {oc17 kV17 dc17 pm17 cd17 ct17 : Value}
    {p17 : Addr} {pr17 : List Value}
    {f18 : Addr} {od18 an18 : Option Addr} {sl18 : Array (Option Value)} {oc18 kV18 dc18 pm18 cd18 ct18 : Value} {p18 : Addr} {pr18 : List Value}
    {tkLONGEST_PERIOD : Tok}
    {tkMOST_HOUSES : Tok}
    {tkMOST_ORDERS : Tok}
    {tkLONGEST_DELAY : Tok}
    {tkMOST_DIGITS : Tok}
    (aCNet : PySem.W.nsIn K mainGlobals "Net" = some (some (.ref C_Net)))
    (a1 : PySem.W.nsIn K mainGlobals "is_integer" = some (some (.ref f1)))
    (l1 : K.lookup f1 = some ⟨oc1, od1, .func (PySem.W.fnOf "is_integer" "is_integer" (defArgs s_is_integer) (defBody s_is_integer) (defScope s_is_integer) .none kV1 dc1 pm1 an1 cd1 ct1), sl1⟩)
    (c1 : PySem.W.codeIn K cd1 "is_integer" = true)
    (k1 : PySem.W.keepIn K (.ref f1) = true)
    (a2 : PySem.W.nsIn K mainGlobals "is_within" = some (some (.ref f2)))
    (l2 : K.lookup f2 = some ⟨oc2, od2, .func (PySem.W.fnOf "is_within" "is_within" (defArgs s_is_within) (defBody s_is_within) (defScope s_is_within) .none kV2 dc2 pm2 an2 cd2 ct2), sl2⟩)
    (c2 : PySem.W.codeIn K cd2 "is_within" = true)
    (k2 : PySem.W.keepIn K (.ref f2) = true)
    (a3 : PySem.W.nsIn K mainGlobals "is_order" = some (some (.ref f3)))
    (l3 : K.lookup f3 = some ⟨oc3, od3, .func (PySem.W.fnOf "is_order" "is_order" (defArgs s_is_order) (defBody s_is_order) (defScope s_is_order) .none kV3 dc3 pm3 an3 cd3 ct3), sl3⟩)
    (c3 : PySem.W.codeIn K cd3 "is_order" = true)
    (k3 : PySem.W.keepIn K (.ref f3) = true)
    (a4 : PySem.W.nsIn K mainGlobals "check_orders" = some (some (.ref f4)))
    (l4 : K.lookup f4 = some ⟨oc4, od4, .func (PySem.W.fnOf "check_orders" "check_orders" (defArgs s_check_orders) (defBody s_check_orders) (defScope s_check_orders) .none kV4 dc4 pm4 an4 cd4 ct4), sl4⟩)
    (c4 : PySem.W.codeIn K cd4 "check_orders" = true)
    (k4 : PySem.W.keepIn K (.ref f4) = true)
    (a5 : PySem.W.nsIn K mainGlobals "find_followed" = some (some (.ref f5)))
    (l5 : K.lookup f5 = some ⟨oc5, od5, .func (PySem.W.fnOf "find_followed" "find_followed" (defArgs s_find_followed) (defBody s_find_followed) (defScope s_find_followed) .none kV5 dc5 pm5 an5 cd5 ct5), sl5⟩)
    (c5 : PySem.W.codeIn K cd5 "find_followed" = true)
    (k5 : PySem.W.keepIn K (.ref f5) = true)
    (a6 : PySem.W.nsIn K mainGlobals "_law_random" = some (some (.ref f6)))
    (l6 : K.lookup f6 = some ⟨oc6, od6, .func (PySem.W.fnOf "_law_random" "_law_random" (defArgs s_l_random) (defBody s_l_random) (defScope s_l_random) .none kV6 dc6 pm6 an6 cd6 ct6), sl6⟩)
    (c6 : PySem.W.codeIn K cd6 "_law_random" = true)
    (k6 : PySem.W.keepIn K (.ref f6) = true)
    (a7 : PySem.W.nsIn K mainGlobals "_law_below" = some (some (.ref f7)))
    (l7 : K.lookup f7 = some ⟨oc7, od7, .func (PySem.W.fnOf "_law_below" "_law_below" (defArgs s_l_below) (defBody s_l_below) (defScope s_l_below) .none kV7 dc7 pm7 an7 cd7 ct7), sl7⟩)
    (c7 : PySem.W.codeIn K cd7 "_law_below" = true)
    (k7 : PySem.W.keepIn K (.ref f7) = true)
    (a8 : PySem.W.nsIn K mainGlobals "_law_order" = some (some (.ref f8)))
    (l8 : K.lookup f8 = some ⟨oc8, od8, .func (PySem.W.fnOf "_law_order" "_law_order" (defArgs s_l_order) (defBody s_l_order) (defScope s_l_order) .none kV8 dc8 pm8 an8 cd8 ct8), sl8⟩)
    (c8 : PySem.W.codeIn K cd8 "_law_order" = true)
    (k8 : PySem.W.keepIn K (.ref f8) = true)
    (a9 : PySem.W.nsIn K mainGlobals "_law_parts" = some (some (.ref f9)))
    (l9 : K.lookup f9 = some ⟨oc9, od9, .func (PySem.W.fnOf "_law_parts" "_law_parts" (defArgs s_l_parts) (defBody s_l_parts) (defScope s_l_parts) .none kV9 dc9 pm9 an9 cd9 ct9), sl9⟩)
    (c9 : PySem.W.codeIn K cd9 "_law_parts" = true)
    (k9 : PySem.W.keepIn K (.ref f9) = true)
    (a10 : PySem.W.nsIn K mainGlobals "_law_net" = some (some (.ref f10)))
    (l10 : K.lookup f10 = some ⟨oc10, od10, .func (PySem.W.fnOf "_law_net" "_law_net" (defArgs s_l_net) (defBody s_l_net) (defScope s_l_net) .none kV10 dc10 pm10 an10 cd10 ct10), sl10⟩)
    (c10 : PySem.W.codeIn K cd10 "_law_net" = true)
    (k10 : PySem.W.keepIn K (.ref f10) = true)
    (a11 : PySem.W.nsIn K mainGlobals "_law_equal" = some (some (.ref f11)))
    (l11 : K.lookup f11 = some ⟨oc11, od11, .func (PySem.W.fnOf "_law_equal" "_law_equal" (defArgs s_l_equal) (defBody s_l_equal) (defScope s_l_equal) .none kV11 dc11 pm11 an11 cd11 ct11), sl11⟩)
    (c11 : PySem.W.codeIn K cd11 "_law_equal" = true)
    (k11 : PySem.W.keepIn K (.ref f11) = true)
    (a12 : PySem.W.nsIn K mainGlobals "is_numeral" = some (some (.ref f12)))
    (l12 : K.lookup f12 = some ⟨oc12, od12, .func (PySem.W.fnOf "is_numeral" "is_numeral" (defArgs s_is_numeral) (defBody s_is_numeral) (defScope s_is_numeral) .none kV12 dc12 pm12 an12 cd12 ct12), sl12⟩)
    (c12 : PySem.W.codeIn K cd12 "is_numeral" = true)
    (k12 : PySem.W.keepIn K (.ref f12) = true)
    (a13 : PySem.W.nsIn K mainGlobals "read_line" = some (some (.ref f13)))
    (l13 : K.lookup f13 = some ⟨oc13, od13, .func (PySem.W.fnOf "read_line" "read_line" (defArgs s_read_line) (defBody s_read_line) (defScope s_read_line) .none kV13 dc13 pm13 an13 cd13 ct13), sl13⟩)
    (c13 : PySem.W.codeIn K cd13 "read_line" = true)
    (k13 : PySem.W.keepIn K (.ref f13) = true)
    (a14 : PySem.W.nsIn K mainGlobals "read_rows" = some (some (.ref f14)))
    (l14 : K.lookup f14 = some ⟨oc14, od14, .func (PySem.W.fnOf "read_rows" "read_rows" (defArgs s_read_rows) (defBody s_read_rows) (defScope s_read_rows) .none kV14 dc14 pm14 an14 cd14 ct14), sl14⟩)
    (c14 : PySem.W.codeIn K cd14 "read_rows" = true)
    (k14 : PySem.W.keepIn K (.ref f14) = true)
    (a15 : PySem.W.nsIn K mainGlobals "law" = some (some (.ref f15)))
    (l15 : K.lookup f15 = some ⟨oc15, od15, .func (PySem.W.fnOf "law" "law" (defArgs s_law) (defBody s_law) (defScope s_law) .none kV15 dc15 pm15 an15 cd15 ct15), sl15⟩)
    (c15 : PySem.W.codeIn K cd15 "law" = true)
    (k15 : PySem.W.keepIn K (.ref f15) = true)
    (a16 : PySem.W.findIn K (.ref C_Net) "__init__" = some (some (.ref f16)))
    (i16 : PySem.W.isFn K (.ref f16) = true)
    (l16 : K.lookup f16 = some ⟨oc16, od16, .func (PySem.W.fnOf "__init__" "Net.__init__" (defArgs s_Net_init) (defBody s_Net_init) (defScope s_Net_init) .none kV16 dc16 pm16 an16 cd16 ct16), sl16⟩)
    (c16 : PySem.W.codeIn K cd16 "Net.__init__" = true)
    (k16 : PySem.W.keepIn K (.ref f16) = true)
    (a17 : PySem.W.findIn K (.ref C_Net) "text" = some (some (.ref p17)))
    (pg17 : PySem.W.specialIn K (.ref p17) "__get__" = some (some (.builtin "property.__get__")))
    (pt17 : PySem.W.takesIn K (.ref p17) = some true)
    (pc17 : PySem.W.recIn K p17 "property" = some (.ref f17 :: pr17))
    (l17 : K.lookup f17 = some ⟨oc17, od17, .func (PySem.W.fnOf "text" "Net.text" (defArgs s_Net_text) (defBody s_Net_text) (defScope s_Net_text) .none kV17 dc17 pm17 an17 cd17 ct17), sl17⟩)
    (c17 : PySem.W.codeIn K cd17 "Net.text" = true)
    (k17 : PySem.W.keepIn K (.ref f17) = true)
    (a18 : PySem.W.findCls K (.ref C_Net) (.type "type") "parse" = some (.get (.builtin "classmethod.__get__") (.ref p18) .none (.ref C_Net)))
    (pc18 : PySem.W.recIn K p18 "classmethod" = some (.ref f18 :: pr18))
    (fi18 : PySem.W.fnIn K f18 = true)
    (l18 : K.lookup f18 = some ⟨oc18, od18, .func (PySem.W.fnOf "parse" "Net.parse" (defArgs s_Net_parse) (defBody s_Net_parse) (defScope s_Net_parse) .none kV18 dc18 pm18 an18 cd18 ct18), sl18⟩)
    (c18 : PySem.W.codeIn K cd18 "Net.parse" = true)
    (k18 : PySem.W.keepIn K (.ref f18) = true)
    (rdNet : PySem.W.readsIn K C_Net (.type "type") = true)
    (rgNet : PySem.W.specialIn K (.ref C_Net) "__getattribute__" = some (some (.builtin "type.__getattribute__")))
    (pgNet : PySem.W.plainGet K C_Net Str.empty = true)
    (hdNet : PySem.W.hasDictIn K C_Net = true)
    (poNet : PySem.W.plainOver K C_Net = true)
    (saNet : PySem.W.findIn K (.ref C_Net) "__setattr__" = some (some (.builtin "object.__setattr__")))
    (mkNet : PySem.W.makesIn K C_Net = true)
    (kcNet : PySem.W.keepIn K (.ref C_Net) = true)
    (nNet_period : PySem.W.findIn K (.ref C_Net) "period" = some none)
    (nNet_houses : PySem.W.findIn K (.ref C_Net) "houses" = some none)
    (nNet_orders : PySem.W.findIn K (.ref C_Net) "orders" = some none)
    (nNet_followed : PySem.W.findIn K (.ref C_Net) "followed" = some none)
    (vLONGEST_PERIOD : PySem.W.nsIn K mainGlobals "LONGEST_PERIOD" = some (some (.int 30 tkLONGEST_PERIOD)))
    (vMOST_HOUSES : PySem.W.nsIn K mainGlobals "MOST_HOUSES" = some (some (.int 10 tkMOST_HOUSES)))
    (vMOST_ORDERS : PySem.W.nsIn K mainGlobals "MOST_ORDERS" = some (some (.int 20 tkMOST_ORDERS)))
    (vLONGEST_DELAY : PySem.W.nsIn K mainGlobals "LONGEST_DELAY" = some (some (.int 9 tkLONGEST_DELAY)))
    (vMOST_DIGITS : PySem.W.nsIn K mainGlobals "MOST_DIGITS" = some (some (.int 3 tkMOST_DIGITS)))
    (zlen : PySem.W.nsIn K mainGlobals "len" = some none)
    (zrange : PySem.W.nsIn K mainGlobals "range" = some none)
    (zisinstance : PySem.W.nsIn K mainGlobals "isinstance" = some none)
    (zint : PySem.W.nsIn K mainGlobals "int" = some none)
    (zbool : PySem.W.nsIn K mainGlobals "bool" = some none)
    (zstr : PySem.W.nsIn K mainGlobals "str" = some none)
    (ztuple : PySem.W.nsIn K mainGlobals "tuple" = some none)
    (zlist : PySem.W.nsIn K mainGlobals "list" = some none)
    (zall : PySem.W.nsIn K mainGlobals "all" = some none)
    (zabs : PySem.W.nsIn K mainGlobals "abs" = some none)
    (zenumerate : PySem.W.nsIn K mainGlobals "enumerate" = some none)
    : ∃ fd : FuncData, (∀ (s : Shared) (v : Value), BindsTo s fd ⟨[v], []⟩ [("_law_script", v)]) ∧ ∀ base : Heap, K.In base → base.Ns mainGlobals mg → FnOk l.prog w K mg base CX0 9 fa fd ["_law_script"] (spLaw K) := by
  have e := hfa.symm.trans (PySem.W.mg_of X G a15)
  cases e
  have G_Net := PySem.W.mg_of X G aCNet
  have T_Net : NetT K C_Net := ⟨⟨pgNet, hdNet, poNet, saNet⟩, nNet_period, nNet_houses, nNet_orders, nNet_followed⟩
  have K_LONGEST_PERIOD : ∃ t, mg "LONGEST_PERIOD" = some (.int 30 t) := ⟨_, PySem.W.mg_of X G vLONGEST_PERIOD⟩
  have K_MOST_HOUSES : ∃ t, mg "MOST_HOUSES" = some (.int 10 t) := ⟨_, PySem.W.mg_of X G vMOST_HOUSES⟩
  have K_MOST_ORDERS : ∃ t, mg "MOST_ORDERS" = some (.int 20 t) := ⟨_, PySem.W.mg_of X G vMOST_ORDERS⟩
  have K_LONGEST_DELAY : ∃ t, mg "LONGEST_DELAY" = some (.int 9 t) := ⟨_, PySem.W.mg_of X G vLONGEST_DELAY⟩
  have K_MOST_DIGITS : ∃ t, mg "MOST_DIGITS" = some (.int 3 t) := ⟨_, PySem.W.mg_of X G vMOST_DIGITS⟩
  have B : Blt mg := ⟨PySem.W.mg_none_of X G zlen, PySem.W.mg_none_of X G zrange, PySem.W.mg_none_of X G zisinstance, PySem.W.mg_none_of X G zint, PySem.W.mg_none_of X G zbool, PySem.W.mg_none_of X G zstr, PySem.W.mg_none_of X G ztuple, PySem.W.mg_none_of X G zlist, PySem.W.mg_none_of X G zall, PySem.W.mg_none_of X G zabs, PySem.W.mg_none_of X G zenumerate⟩
  have G_is_integer := PySem.W.mg_of X G a1
  have F_is_integer := fun_mk (st := s_is_integer) l1 c1 k1
  have B_is_integer := F_is_integer.binds (ps := P_is_integer) fun _ _ _ _ _ _ us hl => match us, hl with | [_], _ => rfl
  have G_is_within := PySem.W.mg_of X G a2
  have F_is_within := fun_mk (st := s_is_within) l2 c2 k2
  have B_is_within := F_is_within.binds (ps := P_is_within) fun _ _ _ _ _ _ us hl => match us, hl with | [_, _, _], _ => rfl
  have G_is_order := PySem.W.mg_of X G a3
  have F_is_order := fun_mk (st := s_is_order) l3 c3 k3
  have B_is_order := F_is_order.binds (ps := P_is_order) fun _ _ _ _ _ _ us hl => match us, hl with | [_, _, _], _ => rfl
  have G_check_orders := PySem.W.mg_of X G a4
  have F_check_orders := fun_mk (st := s_check_orders) l4 c4 k4
  have B_check_orders := F_check_orders.binds (ps := P_check_orders) fun _ _ _ _ _ _ us hl => match us, hl with | [_, _, _], _ => rfl
  have G_find_followed := PySem.W.mg_of X G a5
  have F_find_followed := fun_mk (st := s_find_followed) l5 c5 k5
  have B_find_followed := F_find_followed.binds (ps := P_find_followed) fun _ _ _ _ _ _ us hl => match us, hl with | [_, _, _], _ => rfl
  have G_l_random := PySem.W.mg_of X G a6
  have F_l_random := fun_mk (st := s_l_random) l6 c6 k6
  have B_l_random := F_l_random.binds (ps := P_l_random) fun _ _ _ _ _ _ us hl => match us, hl with | [_, _], _ => rfl
  have G_l_below := PySem.W.mg_of X G a7
  have F_l_below := fun_mk (st := s_l_below) l7 c7 k7
  have B_l_below := F_l_below.binds (ps := P_l_below) fun _ _ _ _ _ _ us hl => match us, hl with | [_, _], _ => rfl
  have G_l_order := PySem.W.mg_of X G a8
  have F_l_order := fun_mk (st := s_l_order) l8 c8 k8
  have B_l_order := F_l_order.binds (ps := P_l_order) fun _ _ _ _ _ _ us hl => match us, hl with | [_, _, _], _ => rfl
  have G_l_parts := PySem.W.mg_of X G a9
  have F_l_parts := fun_mk (st := s_l_parts) l9 c9 k9
  have B_l_parts := F_l_parts.binds (ps := P_l_parts) fun _ _ _ _ _ _ us hl => match us, hl with | [_, _], _ => rfl
  have G_l_net := PySem.W.mg_of X G a10
  have F_l_net := fun_mk (st := s_l_net) l10 c10 k10
  have B_l_net := F_l_net.binds (ps := P_l_net) fun _ _ _ _ _ _ us hl => match us, hl with | [_], _ => rfl
  have G_l_equal := PySem.W.mg_of X G a11
  have F_l_equal := fun_mk (st := s_l_equal) l11 c11 k11
  have B_l_equal := F_l_equal.binds (ps := P_l_equal) fun _ _ _ _ _ _ us hl => match us, hl with | [_, _], _ => rfl
  have G_is_numeral := PySem.W.mg_of X G a12
  have F_is_numeral := fun_mk (st := s_is_numeral) l12 c12 k12
  have B_is_numeral := F_is_numeral.binds (ps := P_is_numeral) fun _ _ _ _ _ _ us hl => match us, hl with | [_], _ => rfl
  have G_read_line := PySem.W.mg_of X G a13
  have F_read_line := fun_mk (st := s_read_line) l13 c13 k13
  have B_read_line := F_read_line.binds (ps := P_read_line) fun _ _ _ _ _ _ us hl => match us, hl with | [_, _, _], _ => rfl
  have G_read_rows := PySem.W.mg_of X G a14
  have F_read_rows := fun_mk (st := s_read_rows) l14 c14 k14
  have B_read_rows := F_read_rows.binds (ps := P_read_rows) fun _ _ _ _ _ _ us hl => match us, hl with | [_], _ => rfl
  have G_law := PySem.W.mg_of X G a15
  have F_law := fun_mk (st := s_law) l15 c15 k15
  have B_law := F_law.binds (ps := P_law) fun _ _ _ _ _ _ us hl => match us, hl with | [_], _ => rfl
  have F_Net_init := fun_mk (st := s_Net_init) l16 c16 k16
  have B_Net_init := F_Net_init.binds (ps := P_Net_init) fun _ _ _ _ _ _ us hl => match us, hl with | [_, _, _, _], _ => rfl
  have M_Net_init : Mk K C_Net f16 := ⟨mkNet, a16, i16, kcNet⟩
  have F_Net_text := fun_mk (st := s_Net_text) l17 c17 k17
  have B_Net_text := F_Net_text.binds (ps := P_Net_text) fun _ _ _ _ _ _ us hl => match us, hl with | [_], _ => rfl
  have M_Net_text : PropOf K C_Net "text" p17 f17 := ⟨a17, pg17, pt17, _, pc17⟩
  have F_Net_parse := fun_mk (st := s_Net_parse) l18 c18 k18
  have B_Net_parse := F_Net_parse.binds (ps := P_Net_parse) fun _ _ _ _ _ _ us hl => match us, hl with | [_, _], _ => rfl
  have M_Net_parse : ClX.CMet K C_Net (.type "type") "parse" p18 f18 := ⟨a18, ⟨_, pc18⟩, fi18⟩
  have R_Net : ClX.CRead K C_Net (.type "type") := ⟨rdNet, rgNet⟩
  refine ⟨PySem.W.fnOf "law" "law" (defArgs s_law) (defBody s_law) (defScope s_law) .none kV15 dc15 pm15 an15 cd15 ct15, fun s v => .of_eq rfl, fun base _ _ => ?_⟩
  have D_isint : Df l.prog w K mg base "is_integer" 1 P_is_integer (spIsInt K) := ⟨_, _, G_is_integer, F_is_integer.kp, B_is_integer, ok_isint F_is_integer B⟩
  have D_within : Df l.prog w K mg base "is_within" 2 P_is_within (spWithin K) := ⟨_, _, G_is_within, F_is_within.kp, B_is_within, ok_within F_is_within D_isint⟩
  have D_order : Df l.prog w K mg base "is_order" 3 P_is_order (spIsOrder K) := ⟨_, _, G_is_order, F_is_order.kp, B_is_order, ok_is_order F_is_order B D_within K_LONGEST_DELAY⟩
  have D_chk : Df l.prog w K mg base "check_orders" 4 P_check_orders spChkOrders := ⟨_, _, G_check_orders, F_check_orders.kp, B_check_orders, ok_chk_orders F_check_orders B D_order K_MOST_ORDERS⟩
  have D_fol : Df l.prog w K mg base "find_followed" 2 P_find_followed spFollowed := ⟨_, _, G_find_followed, F_find_followed.kp, B_find_followed, ok_followed F_find_followed B⟩
  have D_rnd : Df l.prog w K mg base "_law_random" 2 P_l_random (spRandom K) := ⟨_, _, G_l_random, F_l_random.kp, B_l_random, ok_random F_l_random B⟩
  have D_bel : Df l.prog w K mg base "_law_below" 2 P_l_below spBelow := ⟨_, _, G_l_below, F_l_below.kp, B_l_below, ok_below F_l_below B.len⟩
  have D_ord : Df l.prog w K mg base "_law_order" 3 P_l_order spOrder := ⟨_, _, G_l_order, F_l_order.kp, B_l_order, ok_order F_l_order D_bel⟩
  have D_par : Df l.prog w K mg base "_law_parts" 4 P_l_parts spParts := ⟨_, _, G_l_parts, F_l_parts.kp, B_l_parts, ok_parts F_l_parts B D_bel D_ord⟩
  have O_init : FnOk l.prog w K mg base CX0 5 _ _ P_Net_init (spInit C_Net) := ok_init F_Net_init T_Net D_within D_chk D_fol K_LONGEST_PERIOD K_MOST_HOUSES
  have D_net : Df l.prog w K mg base "_law_net" 7 P_l_net (spNet C_Net) := ⟨_, _, G_l_net, F_l_net.kp, B_l_net, ok_net F_l_net M_Net_init G_Net O_init B_Net_init⟩
  have D_eq : ∀ n, Df l.prog w K mg base "_law_equal" (n + 2) P_l_equal (spEqual n) := fun n => ⟨_, _, G_l_equal, F_l_equal.kp, B_l_equal, (ok_equal F_l_equal B G_l_equal B_l_equal n).mono (by omega)⟩
  have O_tx : FnOk l.prog w K mg base CX0 2 _ _ P_Net_text (spText C_Net) := ok_text F_Net_text T_Net
  have D_nu : Df l.prog w K mg base "is_numeral" 2 P_is_numeral spNum := ⟨_, _, G_is_numeral, F_is_numeral.kp, B_is_numeral, ok_numeral F_is_numeral B K_MOST_DIGITS⟩
  have D_li : Df l.prog w K mg base "read_line" 3 P_read_line spLine := ⟨_, _, G_read_line, F_read_line.kp, B_read_line, ok_line F_read_line B D_nu⟩
  have D_ro : Df l.prog w K mg base "read_rows" 4 P_read_rows spRows := ⟨_, _, G_read_rows, F_read_rows.kp, B_read_rows, ok_rows F_read_rows B D_li⟩
  have O_pa : FnOk l.prog w K mg base CX0 7 _ _ P_Net_parse (spParse C_Net) := ok_parse F_Net_parse B D_ro M_Net_init O_init B_Net_init
  exact ok_law F_law B T_Net G_Net D_rnd D_par D_net D_eq R_Net M_Net_parse (ok_parse F_Net_parse B D_ro M_Net_init O_init B_Net_init) B_Net_parse M_Net_text (ok_text F_Net_text T_Net) B_Net_text
end Cp
open PySem PySem.W PyProof.Rows
set_option maxRecDepth 100000 in
set_option maxHeartbeats 0 in
theorem PySem.Challenge.cw_chasepost_k17_texts_of_nets_holds : PySem.Challenge.rw_chasepost_k17_texts_of_nets.Holds := by
  w_on; o_law; k_head; (case hw => w_witness2)
  k_fill
  refine L2.walk_of (l := PySem.Challenge.rw_chasepost_k17_texts_of_nets) (n := 63) (k := 9) (x := "_law_script") (CX := fun _ => L2.CX0) (sp := fun w => Cp.spLaw _) rfl (by decide) rfl ⟨rfl, by decide, by decide⟩ (fun w h Y => PySem.W.kIn_of Y) ?F (fun _ _ a ns hl _ hS => ⟨a, ns, rfl, hS, hl, fun _ => rfl⟩) (fun _ _ _ _ _ h => h)
  case F =>
    intro w mg fa h KX G hmg
    refine' Cp.all_mk KX G hmg ?aCNet ?a1 ?l1 ?c1 ?k1 ?a2 ?l2 ?c2 ?k2 ?a3 ?l3 ?c3 ?k3 ?a4 ?l4 ?c4 ?k4 ?a5 ?l5 ?c5 ?k5 ?a6 ?l6 ?c6 ?k6 ?a7 ?l7 ?c7 ?k7 ?a8 ?l8 ?c8 ?k8 ?a9 ?l9 ?c9 ?k9 ?a10 ?l10 ?c10 ?k10 ?a11 ?l11 ?c11 ?k11 ?a12 ?l12 ?c12 ?k12 ?a13 ?l13 ?c13 ?k13 ?a14 ?l14 ?c14 ?k14 ?a15 ?l15 ?c15 ?k15 ?a16 ?i16 ?l16 ?c16 ?k16 ?a17 ?pg17 ?pt17 ?pc17 ?l17 ?c17 ?k17 ?a18 ?pc18 ?fi18 ?l18 ?c18 ?k18 ?rdNet ?rgNet ?pgNet ?hdNet ?poNet ?saNet ?mkNet ?kcNet ?nNet_period ?nNet_houses ?nNet_orders ?nNet_followed ?vLONGEST_PERIOD ?vMOST_HOUSES ?vMOST_ORDERS ?vLONGEST_DELAY ?vMOST_DIGITS ?zlen ?zrange ?zisinstance ?zint ?zbool ?zstr ?ztuple ?zlist ?zall ?zabs ?zenumerate
    (case aCNet => k_is)
    (case a1 => k_is)
    (case l1 => k_is)
    (case c1 => k_is)
    (case k1 => k_is)
    (case a2 => k_is)
    (case l2 => k_is)
    (case c2 => k_is)
    (case k2 => k_is)
    (case a3 => k_is)
    (case l3 => k_is)
    (case c3 => k_is)
    (case k3 => k_is)
    (case a4 => k_is)
    (case l4 => k_is)
    (case c4 => k_is)
    (case k4 => k_is)
    (case a5 => k_is)
    (case l5 => k_is)
    (case c5 => k_is)
    (case k5 => k_is)
    (case a6 => k_is)
    (case l6 => k_is)
    (case c6 => k_is)
    (case k6 => k_is)
    (case a7 => k_is)
    (case l7 => k_is)
    (case c7 => k_is)
    (case k7 => k_is)
    (case a8 => k_is)
    (case l8 => k_is)
    (case c8 => k_is)
    (case k8 => k_is)
    (case a9 => k_is)
    (case l9 => k_is)
    (case c9 => k_is)
    (case k9 => k_is)
    (case a10 => k_is)
    (case l10 => k_is)
    (case c10 => k_is)
    (case k10 => k_is)
    (case a11 => k_is)
    (case l11 => k_is)
    (case c11 => k_is)
    (case k11 => k_is)
    (case a12 => k_is)
    (case l12 => k_is)
    (case c12 => k_is)
    (case k12 => k_is)
    (case a13 => k_is)
    (case l13 => k_is)
    (case c13 => k_is)
    (case k13 => k_is)
    (case a14 => k_is)
    (case l14 => k_is)
    (case c14 => k_is)
    (case k14 => k_is)
    (case a15 => k_is)
    (case l15 => k_is)
    (case c15 => k_is)
    (case k15 => k_is)
    (case a16 => k_is)
    (case i16 => k_is)
    (case l16 => k_is)
    (case c16 => k_is)
    (case k16 => k_is)
    (case a17 => k_is)
    (case pg17 => k_is)
    (case pt17 => k_is)
    (case pc17 => k_is)
    (case l17 => k_is)
    (case c17 => k_is)
    (case k17 => k_is)
    (case a18 => k_is)
    (case pc18 => k_is)
    (case fi18 => k_is)
    (case l18 => k_is)
    (case c18 => k_is)
    (case k18 => k_is)
    (case rdNet => k_is)
    (case rgNet => k_is)
    (case pgNet => k_is)
    (case hdNet => k_is)
    (case poNet => k_is)
    (case saNet => k_is)
    (case mkNet => k_is)
    (case kcNet => k_is)
    (case nNet_period => k_is)
    (case nNet_houses => k_is)
    (case nNet_orders => k_is)
    (case nNet_followed => k_is)
    (case vLONGEST_PERIOD => k_is)
    (case vMOST_HOUSES => k_is)
    (case vMOST_ORDERS => k_is)
    (case vLONGEST_DELAY => k_is)
    (case vMOST_DIGITS => k_is)
    (case zlen => k_is)
    (case zrange => k_is)
    (case zisinstance => k_is)
    (case zint => k_is)
    (case zbool => k_is)
    (case zstr => k_is)
    (case ztuple => k_is)
    (case zlist => k_is)
    (case zall => k_is)
    (case zabs => k_is)
    (case zenumerate => k_is)
