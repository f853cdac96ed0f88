import PyProof.Rows.All
import Wide.All
import OpenK.AllK
import Wide.FinOn
import HandS.ForMost
import HandS.Exc
import HandS.TryOnly
import HandS.ExcOwn
import HandS.WordsExc
import HandS.CallSlots
import HandS.TupAny
import HandS.SortInts
import HandS.Conv
import HandS.IsInst
import HandS.Deep
import HandS.ExcInit
import HandS.Walk
import KE.GoesEnum
import KE.DataMinMax
import PyProof.SeqIndex
import HandS.ExcIs
import HandS.Style
import HandS.Ends
import HandS.Zip
import KE.KTupSum
import HandS.SortOrd
import KE.SortData
import HandS.OwnEq
import HandS.TupMul
import HandS.DictComp
import KE.DatumOrd
import KE.BitLaws
import HandS.Base
import PySem.Challenge.RW_bigcorners_k34_whole_runs_by_the_text_al
set_option Elab.async false
set_option linter.all false
set_option maxRecDepth 100000
/-! # rules of our own: a tuple is told with its object (no dict), so that its methods may be called -/
namespace L2
open PySem PySem.Spec PyProof.Rows
/-- a tuple whose object has no dict -/
def SqN (K : PySem.W.Frag) (H : Hp) (a : Addr) (xs : List V) : Prop := (∃ o, H a = some (.frz o (.tup xs)) ∧ o.dict = none) ∨
  ∃ (o : Obj) (its : Array Value) (n : Nat), K.lookup a = some o ∧ o.cls = .type "tuple" ∧ o.dict = none ∧ o.data = .seq its n ∧ its.size ≤ sizeLine ∧ Vals xs its.toList
theorem SqN.t {K : PySem.W.Frag} {H : Hp} {a : Addr} {xs : List V} (h : SqN K H a xs) : SqT K H a xs := by
  rcases h with ⟨ob, h, _⟩ | ⟨o, its, n, h1, h2, _, h3⟩
  · exact .inl (.inr ⟨ob, h⟩)
  · exact .inr ⟨o, its, n, h1, h2, h3⟩
theorem tupF_ok {P : Program} {w : World} {H : Hp} {hh : Heap} {a : Addr} {xs : List V} {its : List Value} {ob : Obj} (z : xs.length ≤ sizeLine) (r : Vals xs its) (e : hh.get? a = some ob) (hc : ob.cls = .type "tuple") (hd : ∃ n, ob.data = .seq its.toArray n) : ObjOk P w H hh a (.frz ob (.tup xs)) :=
  ⟨e, z, its, r, ob, e, hc, hd⟩
abbrev tupO (its : List Value) : Obj := { cls := .type "tuple", data := .seq its.toArray }
section
variable {X : Cx} {es : List Expr} {pos : Pos} {t : TA}
/-- a new tuple at p, its object told -/
def NewT (xs : List V) (Q : VK) (H : Hp) : Prop := ∀ p o, o.dict = none → H p = none → Q (.ref p) (upd H p (.frz o (.tup xs)))
theorem laidT {pins : List (Addr × Obj)} {σ : St} {H : Hp} {s : Shared} {xs : List V} {us : List Value} {Q : VK} (I : Inv X pins σ H s) (z : xs.length ≤ sizeLine) (r : Vals xs us) (q : NewT xs Q H) :
    EP X pins σ Q (.ref s.heap.objs.size) { s with heap := s.heap.push (tupO us) } :=
  ⟨.ref s.heap.objs.size, upd H s.heap.objs.size (.frz (tupO us) (.tup xs)), I.laid (t' := s.toks) (fun c y yy => Heap.get?_push_of_some _ yy) (Nat.le_refl _) (tupF_ok z r (Heap.get?_push_size _ rfl) rfl ⟨_, rfl⟩), rfl,
    q _ _ rfl (I.hok.fresh (Nat.le_refl _))⟩
def tTupF (t : TA) : TE := fun σ H Q => t σ H fun xs H1 => xs.length ≤ sizeLine ∧ NewT xs Q H1
theorem pe_tupF {x1} (h : PA X es t) : PE X (.Tuple es x1 pos) (tTupF t) := ⟨fun pins s σ H Q I hq =>
  wpAny_Tuple_spliced (thn (h.run pos pins s σ H _ I hq) fun us s1 ⟨xs, H1, I1, r, z, q⟩ => ⟨by rw [← r.length]; exact z, laidT I1 z r q⟩)⟩
theorem call_tupleF : CallR X (.type "tuple") (fun xs H Q => ∃ p ys, xs = [.ref p] ∧ ((SqL X.K H p ys ∧ NewT ys Q H) ∨ (SqT X.K H p ys ∧ Q (.ref p) H))) := by
  intro pins s σ H xs us Q I rr h
  obtain ⟨p, ys, rfl, h⟩ := h
  rcases h with ⟨hq, q⟩ | h
  · obtain ⟨u, rfl, rx⟩ := vals1 rr
    cases rx
    obtain ⟨its, r', pl, hz⟩ := I.list hq
    have hlen := r'.length
    refine call_tuple_list pl.isList (fun h1 kp => ?_) (by simp only [List.size_toArray] <;> omega)
    have I1 : Inv X pins σ H { s with heap := h1 } := I.kept (t' := s.toks) kp
    exact laidT I1 hz r' q
  · exact call_tuple_of pins s σ H _ us Q I rr ⟨p, ys, rfl, .inr h⟩
def rCatF (K : PySem.W.Frag) : R2 := fun x y H Q => ∃ a b xs ys, x = .ref a ∧ y = .ref b ∧ SqT K H a xs ∧ SqT K H b ys ∧ xs.length + ys.length ≤ sizeLine ∧
  (xs = [] → Q (.ref b) H) ∧ (xs ≠ [] → ys = [] → Q (.ref a) H) ∧ (xs ≠ [] → ys ≠ [] → NewT (xs ++ ys) Q H)
theorem op_catF : OpR X (binaryOp .Add) (rCatF X.K) := by
  intro pins s σ H x y v u Q I rx ry h
  obtain ⟨a, b, xs, ys, rfl, rfl, ha, hb, hz, q0, q1, q2⟩ := h
  cases rx
  cases ry
  obtain ⟨its, r1, p1, _⟩ := I.tuple ha
  obtain ⟨its2, r2, p2, _⟩ := I.tuple hb
  by_cases hx : xs = []
  · subst hx
    cases r1
    exact cat_tup0 p1 p2 ⟨.ref b, H, I, rfl, q0 rfl⟩
  · refine HT.cat_tup p1 p2 (fun z => hx (r1.nil_iff.mp z)) (fun z => ⟨.ref a, H, I, rfl, q1 hx (r2.nil_iff.mp z)⟩) (fun z => ?_) (by rw [← r1.length, ← r2.length]; exact hz)
    exact laidT I (by rw [List.length_append]; exact hz) (r1.append r2) (q2 hx fun w => z (r2.nil_iff.mpr w))
def rSlF (K : PySem.W.Frag) : V → Option Int → Option Int → Hp → VK → Prop := fun x lo hi H Q => ∃ a xs, x = .ref a ∧ SqT K H a xs ∧
  (HT.sIx xs.length 0 lo = 0 ∧ HT.sIx xs.length xs.length hi = xs.length → Q (.ref a) H) ∧ (¬ (HT.sIx xs.length 0 lo = 0 ∧ HT.sIx xs.length xs.length hi = xs.length) → NewT (cutV xs lo hi) Q H)
theorem sl_tupF : SlR X (rSlF X.K) := by
  intro pins s σ H x v vl vu lo hi sl Q I rx hs pl pu h
  obtain ⟨a, xs, rfl, hx, q1, q2⟩ := h
  cases rx
  obtain ⟨its, r, ht, hz⟩ := I.tuple hx
  have hlen : its.toArray.size = xs.length := by rw [List.size_toArray]; exact r.length.symm
  refine ⟨"tuple", _, PyProof.Rows.slot_tuple_getitem.lookup, ht.typeIs, ?_⟩
  by_cases hw : HT.sIx xs.length 0 lo = 0 ∧ HT.sIx xs.length xs.length hi = xs.length
  · exact getItem_tuple_whole ht hs pl pu (by rw [hlen]; exact hw) ⟨.ref a, H, I, rfl, q1 hw⟩
  · refine HT.getItem_tuple_cut ht hs pl pu (by rw [hlen]; exact hw) ?_ (by rw [hlen]; exact hz)
    rw [hlen]
    exact laidT I (Nat.le_trans (cutV_length xs lo hi) hz) ((r.drop (HT.sIx xs.length 0 lo)).take (HT.sIx xs.length xs.length hi - HT.sIx xs.length 0 lo)) (q2 hw)

/-! ### what is walked: a list or a tuple (b) -/
def SqB (K : PySem.W.Frag) (b : Bool) (H : Hp) (a : Addr) (xs : List V) : Prop := match b with
  | true => SqT K H a xs
  | false => SqL K H a xs
def HasB (b : Bool) (hh : Heap) (a : Addr) (its : Array Value) : Prop := match b with
  | true => hh.IsTuple a its
  | false => hh.IsList a its
def IterB (b : Bool) (hh : Heap) (it a : Addr) (i : Nat) : Prop := match b with
  | true => hh.IsTupleIter it a i
  | false => hh.IsListIter it a i
theorem IterB.at {b : Bool} {hh h2 : Heap} {it a : Addr} {i : Nat} (x : IterB b hh it a i) (k : ∀ o, hh.get? it = some o → h2.get? it = some o) : IterB b h2 it a i := by
  cases b with
  | true => exact Heap.IsTupleIter.at x k
  | false => exact Heap.IsListIter.at x k
theorem IterB.rec {b : Bool} {hh : Heap} {it a : Addr} {i : Nat} (x : IterB b hh it a i) : ∃ o vs, hh.get? it = some o ∧ o.data = .fields vs := by
  cases b with
  | true => obtain ⟨o, e, c, d⟩ := x; exact ⟨o, _, e, d⟩
  | false => obtain ⟨o, e, c, d⟩ := x; exact ⟨o, _, e, d⟩
theorem SqB.get {b : Bool} {pins : List (Addr × Obj)} {σ : St} {H : Hp} {s : Shared} {a : Addr} {xs : List V} (I : Inv X pins σ H s) (h : SqB X.K b H a xs) : ∃ its : List Value, Vals xs its ∧ HasB b s.heap a its.toArray ∧ xs.length ≤ sizeLine ∧ a < s.heap.objs.size := by
  cases b with
  | true => obtain ⟨its, r, p, z⟩ := I.tuple h; exact ⟨its, r, p, z, p.lt⟩
  | false => obtain ⟨its, r, p, z⟩ := I.list h; exact ⟨its, r, p.isList, z, p.lt⟩
theorem SqB.inj {b : Bool} {pins : List (Addr × Obj)} {σ : St} {H : Hp} {s : Shared} {a : Addr} {xs ys : List V} (I : Inv X pins σ H s) (h : SqB X.K b H a xs) (h2 : SqB X.K b H a ys) : xs = ys := by
  cases b with
  | true => exact I.tuple_inj h h2
  | false => exact I.list_inj h h2
theorem drawsB {prog : Program} {w : World} {A : Around} (b : Bool) (hh : A.handled = none) (it l : Addr) (hne : l ≠ it) (items : Array Value) :
    Draws prog w A it [it, l] items.size (fun i v => items[i]? = some v) (fun i h => IterB b h it l i ∧ HasB b h l items) := by
  cases b with
  | true => exact Draws.tuple hh it l hne items
  | false => exact Draws.list hh it l hne items
abbrev iterO (b : Bool) (l : Addr) : Obj := { cls := .type (if b then "tuple_iterator" else "list_iterator"), data := .fields #[.ref l, .int 0 0] }
theorem beginsB (b : Bool) (l : Addr) (items : Array Value) : Begins (.ref l) (iterO b l) (fun h => HasB b h l items) := by
  cases b with
  | true => exact begins_tuple l items
  | false => exact begins_list l items
theorem iterB_new {b : Bool} {hh : Heap} {it l : Addr} (e : hh.get? it = some (iterO b l)) : IterB b hh it l 0 := by
  cases b with
  | true => exact ⟨_, e, rfl, rfl⟩
  | false => exact ⟨_, e, rfl, rfl⟩
/-- enumerate: a new pair at each turn, its object told -/
def ItE (K : PySem.W.Frag) (b : Bool) (a : Addr) : It :=
  ⟨fun i H => ∃ (xs : List V) (x : V), SqB K b H a xs ∧ xs[i]? = some x, fun i H v H' => ∃ T o x, v = .ref T ∧ H T = none ∧ o.dict = none ∧ H' = upd H T (.frz o (.tup [.int (i : Nat), x])) ∧ ∀ xs, SqB K b H a xs → xs[i]? = some x, fun i H => ∃ xs : List V, SqB K b H a xs ∧ xs.length = i⟩
theorem turn_enumB {P : Program} {w : World} {K : PySem.W.Frag} {elts : List Expr} {kk : Nat} {tpos : Pos} (b : Bool) (a e it : Addr) (hai : a ≠ it) (hae : a ≠ e) :
    Turn P w K (.Tuple elts kk tpos) (ItE K b a) [e, it] e (fun i h => (∃ old, IsEnum h e it ((i : Nat) : Int) old) ∧ IterB b h it a i ∧ e ≠ it) where
  mem := by simp
  obj := fun i h st c hc => by
    obtain ⟨⟨old, he⟩, hit, _⟩ := st
    obtain ⟨o, vs, ho, hd⟩ := hit.rec
    have hc' : c = e ∨ c = it := by simpa using hc
    rcases hc' with z | z
    · rw [z]; exact ⟨_, he, fun v q => nomatch q⟩
    · rw [z]; exact ⟨o, ho, fun v q => by rw [hd] at q; cases q⟩
  keep := fun i h h' st k => let ⟨⟨old, he⟩, hi, hne⟩ := st; ⟨⟨old, k e (by simp) _ he⟩, hi.at fun o q => k it (by simp) o q, hne⟩
  item := by
    intro X hP hw hK hc i pins s σ H E I hf st hg
    subst hP hw hK
    obtain ⟨⟨old, he⟩, hit, hne⟩ := st
    obtain ⟨xs, x, hq, hx⟩ := hg
    obtain ⟨its, rv, p, hz, hal⟩ := hq.get I
    obtain ⟨u, hu, ru⟩ := rv.get hx
    have hel : e < s.heap.objs.size := Heap.lt_size he
    have hil : it < s.heap.objs.size := by obtain ⟨o, vs, q, _⟩ := hit.rec; exact Heap.lt_size q
    have hi : i < its.toArray.size := by
      have := (List.getElem?_eq_some_iff.mp hu).1
      simpa using this
    have hh : X.A.in1.handled = none := I.ok.hd hc
    refine wpAny_pyNext_enum_itemD (drawsB b hh it a hai its.toArray) he ⟨hit, p⟩ hi hne (by simp [hne, Ne.symm hae]) fun x' h1 tk hx' ho st' hT hsz hk => ?_
    have ex : x' = u := by
      have q1 : its.toArray[i]? = some u := by simpa using hu
      rw [q1] at hx'
      exact (Option.some.inj hx').symm
    subst ex
    refine ⟨_, rfl, wpAny_letOwnedTupleGo_enum (s := { s with heap := h1, toks := tk + 1 }) ho fun h2 he' sb => ?_⟩
    have hT2 : h2.get? s.heap.objs.size = some (tupO [.int i tk, x']) := (sb.2 _ (Nat.ne_of_gt hel)).trans hT
    have new : ObjOk X.prog X.w (upd H s.heap.objs.size (.frz (tupO [.int i tk, x']) (.tup [.int (i : Nat), x]))) h2 s.heap.objs.size (.frz (tupO [.int i tk, x']) (.tup [.int (i : Nat), x])) :=
      tupF_ok (by show 2 ≤ sizeLine; decide) (.cons ⟨_, rfl⟩ (.cons ru .nil)) hT2 rfl ⟨_, rfl⟩
    have I1 : Inv X pins σ (upd H s.heap.objs.size (.frz (tupO [.int i tk, x']) (.tup [.int (i : Nat), x]))) { s with heap := h2, toks := tk + 1 } :=
      I.turnedNew (ch := [e, it]) (fun c ob hb q => (sb.2 c (fun z => hb (by simp [z]))).trans (hk c ob (fun z => hb (by simp [z])) (fun z => hb (by simp [z])) q)) hf (Nat.le_refl _) new
    refine ⟨.ref s.heap.objs.size, _, I1, rfl, ⟨_, _, x, rfl, I.hok.fresh (Nat.le_refl _), rfl, rfl, fun ys hy => by rw [SqB.inj I hy hq]; exact hx⟩, ⟨⟨x', ?_⟩, st'.1.at fun o q => (sb.2 it (Ne.symm hne)).trans q, hne⟩, fun c hb => ?_⟩
    · have e1 : ((i + 1 : Nat) : Int) = (i : Int) + 1 := by omega
      rw [e1]; exact he'
    · have hb' : c < s.heap.objs.size := by
        have hc' : c = e ∨ c = it := by simpa using hb
        rcases hc' with z | z
        · rw [z]; exact hel
        · rw [z]; exact hil
      rw [upd_ne (Nat.ne_of_lt hb')]
      exact (hf c hb).1
  done := by
    intro X hP hw hK hc i pins s σ H E I hf st hg
    subst hP hw hK
    obtain ⟨⟨old, he⟩, hit, hne⟩ := st
    obtain ⟨xs, hq, hx⟩ := hg
    obtain ⟨its, rv, p, hz, hal⟩ := hq.get I
    obtain ⟨f0, f1, f2, f3, f4, f5⟩ := hf it (by simp)
    have hl : its.toArray.size = i := by rw [List.size_toArray, ← rv.length]; exact hx
    have hh : X.A.in1.handled = none := I.ok.hd hc
    refine wpAny_pyNext_enum_endD (drawsB b hh it a hai its.toArray) he ⟨by rw [hl]; exact hit, p⟩ fun h1 eb => ⟨rfl, I.turned (t' := s.toks) (fun c o hb q => eb c o hb q) f0 f1 f3 f4 f5⟩
  self := fun A i s Q E st h => let ⟨⟨_, he⟩, _⟩ := st; wpAny_pyIter_enum he h
end
end L2
namespace PySem
theorem meets_enumerate_new1 {v : Value} {o : Obj} {H : Heap → Prop} (B : Begins v o H) :
    Meets (Builtin.«enumerate.__new__» ⟨[.type "enumerate", v], []⟩) (fun _ R s => H s.heap ∧
      R (.ok (.ret (.ref (s.heap.push o).objs.size))) { s with heap := (s.heap.push o).push { cls := .type "enumerate", data := .fields #[.none, .bool false, .ref s.heap.objs.size, rawInt 0, .none, .none] } }) :=
  .of_wp fun prog w A R s hs => by
    obtain ⟨hp, g, d, tk, os⟩ := s
    obtain ⟨h1, hs⟩ := hs
    have hsub := sub_enumerate
    have q1 : ∀ {A' : Around} {E : Value → Shared → Prop} {Q : Value → Shared → Prop}, Q (.ref hp.objs.size) ⟨hp.push o, g, d, tk, os⟩ → wpAny (model prog w) A' (pyIter v) Q E ⟨hp, g, d, tk, os⟩ :=
      fun q => B.iter prog w _ _ ⟨hp, g, d, tk, os⟩ _ h1 q
    wp_walk using q1
    refine wpAny_stack_any fun st => wpAny_pure ?_
    split
    · rename_i c _ _ _ _ _
      cases (c == Value.type "enumerate")
      · wp_walk using q1
        exact ⟨_, rfl, hs⟩
      · wp_walk using q1
        exact ⟨_, rfl, hs⟩
    · wp_walk using q1
      exact ⟨_, rfl, hs⟩
theorem enum_begins1 {prog : Program} {w : World} {A : Around} {E : Value → Shared → Prop} {s : Shared} {v : Value} {o : Obj} {H : Heap → Prop} {Q : Value → Shared → Prop} (B : Begins v o H) (h1 : H s.heap)
    (h : ∀ h', IsEnum h' (s.heap.objs.size + 1) s.heap.objs.size 0 .none → h'.get? s.heap.objs.size = some o → h'.objs.size = s.heap.objs.size + 2 →
      (∀ b o, s.heap.get? b = some o → h'.get? b = some o) → Q (.ref (s.heap.objs.size + 1)) { s with heap := h' }) :
    wpAny (model prog w) A (call (.type "enumerate") [v]) Q E s := by
  refine callType_new F.called_enumerate (by decide) (F.typeCall_enumerate_1 _) (F.newCall_enumerate_1 _) (fun obj => F.args_object_init_2 obj _) F.entry_enumerate_new
    (meets_enumerate_new1 B) ⟨h1, ?_⟩
  have hz : (s.heap.push o).objs.size = s.heap.objs.size + 1 := Heap.size_push ..
  show _ ∧ _
  rw [hz]
  have he : IsEnum ((s.heap.push o).push { cls := .type "enumerate", data := .fields #[.none, .bool false, .ref s.heap.objs.size, rawInt 0, .none, .none] }) (s.heap.objs.size + 1) s.heap.objs.size 0 .none := by
    have := Heap.get?_push_size (s.heap.push o) (o := { cls := .type "enumerate", data := .fields #[.none, .bool false, .ref s.heap.objs.size, rawInt 0, .none, .none] }) rfl
    rw [hz] at this; exact this
  exact ⟨⟨_, he, rfl⟩, h _ he (Heap.get?_push_of_some _ (Heap.get?_push_size _ B.free)) (by rw [Heap.size_push, hz]) fun b o x => Heap.get?_push_of_some _ (Heap.get?_push_of_some _ x)⟩
end PySem

namespace L2
open PySem PySem.Spec PyProof.Rows
section
variable {X : Cx}
def iEnumB (K : PySem.W.Frag) (ta : TA) : TI := fun σ H R => ta σ H fun vs H1 => ∃ b a xs, vs = [.ref a] ∧ SqB K b H1 a xs ∧ R (ItE K b a) H1
theorem pi_enumB {e : Expr} {ta : TA} {p pos tpos : Pos} {elts : List Expr} {kk : Nat} (hg : Gl X "enumerate") (hm : X.mg "enumerate" = none) (ha : PA X [e] ta) (hs : starEach [e] X.env = [(false, eval e X.env)] := by rfl) :
    PI X (.Tuple elts kk tpos) (.Call (.Name "enumerate" p) [e] [] pos) (iEnumB X.K ta) := ⟨fun pins s σ H R I h => by
  refine Call_ (ld_blt I hg hm boot_enumerate (PyProof.Rows.callWith_type1 (thn (ha.run pos pins s σ H _ I h) fun us s1 ⟨vs, H1, I1, r1, q1⟩ => ?_) hs rfl))
  obtain ⟨b, a, xs, ex, hq, q⟩ := q1
  subst ex
  obtain ⟨u, rfl, ru⟩ := r1.one
  cases ru
  obtain ⟨its, rv, p', hz, hal⟩ := hq.get I1
  refine enum_begins1 (beginsB b a its.toArray) p' fun h1 he hit hsz hk => wpAny_pyIter_enum he ?_
  have I2 : Inv X pins σ H1 { s1 with heap := h1 } := I1.kept (t' := s1.toks) hk
  refine ⟨s1.heap.objs.size + 1, [s1.heap.objs.size + 1, s1.heap.objs.size], _, _, H1, rfl, I2, turn_enumB b a (s1.heap.objs.size + 1) s1.heap.objs.size (Nat.ne_of_lt hal) (Nat.ne_of_lt (Nat.lt_succ_of_lt hal)), ⟨⟨.none, he⟩, iterB_new hit, Nat.succ_ne_self _⟩, fun c hb => ?_, q⟩
  have hle : s1.heap.objs.size ≤ c := by
    have e' : c = s1.heap.objs.size + 1 ∨ c = s1.heap.objs.size := by simpa using hb
    rcases e' with z | z <;> rw [z] <;> first | exact Nat.le_refl _ | exact Nat.le_add_right _ _
  exact I1.fpOk hle (I1.hok.fresh hle)⟩
/-- zip of two, each a list or a tuple -/
def ItZ (K : PySem.W.Frag) (b1 b2 : Bool) (a1 a2 : Addr) : It :=
  ⟨fun i H => ∃ (xs ys : List V) (x y : V), SqB K b1 H a1 xs ∧ SqB K b2 H a2 ys ∧ xs[i]? = some x ∧ ys[i]? = some y,
    fun i H v H' => ∃ T o x y, v = .ref T ∧ H T = none ∧ o.dict = none ∧ H' = upd H T (.frz o (.tup [x, y])) ∧ (∀ xs, SqB K b1 H a1 xs → xs[i]? = some x) ∧ ∀ ys, SqB K b2 H a2 ys → ys[i]? = some y,
    fun i H => ∃ xs ys : List V, SqB K b1 H a1 xs ∧ SqB K b2 H a2 ys ∧ i ≤ xs.length ∧ i ≤ ys.length ∧ (i = xs.length ∨ i = ys.length)⟩
theorem turn_zipB {P : Program} {w : World} {K : PySem.W.Frag} {elts : List Expr} {kk : Nat} {tpos : Pos} (b1 b2 : Bool) {a1 a2 z TI TO i1 i2 : Addr} (D : ZipSep2 z TI TO i1 i2 [i1, a1] [i2, a2]) (n1 : a1 ≠ i1) (n2 : a2 ≠ i2) :
    Turn P w K (.Tuple elts kk tpos) (ItZ K b1 b2 a1 a2) [z, TI, TO, i1, i2] z (fun i h => IsZip h z TI TO .none ∧ IsTupOf2 h TI (.ref i1) (.ref i2) ∧ (∃ x y, IsTupOf2 h TO x y) ∧ IterB b1 h i1 a1 i ∧ IterB b2 h i2 a2 i) where
  mem := by simp
  obj := fun i h st c hc => by
    obtain ⟨hz, hTI, ⟨x, y, hTO⟩, h1, h2⟩ := st
    obtain ⟨o1, v1, e1, d1⟩ := h1.rec
    obtain ⟨o2, v2, e2, d2⟩ := h2.rec
    have e' : c = z ∨ c = TI ∨ c = TO ∨ c = i1 ∨ c = i2 := by simpa using hc
    rcases e' with q | q | q | q | q
    · rw [q]; exact ⟨_, hz, fun v q => nomatch q⟩
    · rw [q]; exact ⟨_, hTI, fun v q => nomatch q⟩
    · rw [q]; exact ⟨_, hTO, fun v q => nomatch q⟩
    · rw [q]; exact ⟨o1, e1, fun v q => by rw [d1] at q; cases q⟩
    · rw [q]; exact ⟨o2, e2, fun v q => by rw [d2] at q; cases q⟩
  keep := fun i h h' st k => by
    obtain ⟨hz, hTI, ⟨x, y, hTO⟩, h1, h2⟩ := st
    exact ⟨k z (by simp) _ hz, k TI (by simp) _ hTI, ⟨x, y, k TO (by simp) _ hTO⟩, h1.at fun o q => k i1 (by simp) o q, h2.at fun o q => k i2 (by simp) o q⟩
  item := by
    intro X hP hw hK hc i pins s σ H E I hf st hg
    subst hP hw hK
    obtain ⟨hz, hTI, ⟨x0, y0, hTO⟩, h1, h2⟩ := st
    obtain ⟨xs, ys, x, y, hqx, hqy, hx, hy⟩ := hg
    obtain ⟨its, rv, p, _, _⟩ := hqx.get I
    obtain ⟨its2, rv2, p2, _, _⟩ := hqy.get I
    obtain ⟨u, hu, ru⟩ := rv.get hx
    obtain ⟨u2, hu2, ru2⟩ := rv2.get hy
    have hzl : z < s.heap.objs.size := Heap.lt_size hz
    have hh : X.A.in1.handled = none := I.ok.hd hc
    have l1 : i < its.toArray.size := by simpa using (List.getElem?_eq_some_iff.mp hu).1
    have l2 : i < its2.toArray.size := by simpa using (List.getElem?_eq_some_iff.mp hu2).1
    refine wpAny_pyNext_zipD2_item D (drawsB b1 hh i1 a1 n1 its.toArray) (drawsB b2 hh i2 a2 n2 its2.toArray) hz hTI hTO ⟨h1, p⟩ ⟨h2, p2⟩ l1 l2 fun x1 x2 h' tk hx1 hx2 z' TO' s1' s2' hT hsz hk => ?_
    have ex1 : x1 = u := by
      have q1 : its.toArray[i]? = some u := by simpa using hu
      rw [q1] at hx1; exact (Option.some.inj hx1).symm
    have ex2 : x2 = u2 := by
      have q1 : its2.toArray[i]? = some u2 := by simpa using hu2
      rw [q1] at hx2; exact (Option.some.inj hx2).symm
    subst ex1 ex2
    refine ⟨_, rfl, wpAny_letOwnedTupleGo_zip (s := { s with heap := h', toks := tk }) z' fun h'' z'' sb => ?_⟩
    have hT2 : h''.get? s.heap.objs.size = some (tupO [x1, x2]) := (sb.2 _ (Nat.ne_of_gt hzl)).trans hT
    have new : ObjOk X.prog X.w (upd H s.heap.objs.size (.frz (tupO [x1, x2]) (.tup [x, y]))) h'' s.heap.objs.size (.frz (tupO [x1, x2]) (.tup [x, y])) :=
      tupF_ok (by show 2 ≤ sizeLine; decide) (.cons ru (.cons ru2 .nil)) hT2 rfl ⟨_, rfl⟩
    have I1 : Inv X pins σ (upd H s.heap.objs.size (.frz (tupO [x1, x2]) (.tup [x, y]))) { s with heap := h'', toks := tk } :=
      I.turnedNew (t' := tk) (ch := [z, TI, TO, i1, i2]) (fun c o hb q => (sb.2 c (fun q' => hb (by simp [q']))).trans (hk c o (fun q' => hb (by simp [q'])) (fun q' => hb (by simp [q'])) (fun q' => hb (by simp [q'])) (fun q' => hb (by simp [q'])) q)) hf (Nat.le_refl _) new
    refine ⟨.ref s.heap.objs.size, _, I1, rfl, ⟨_, _, x, y, rfl, I.hok.fresh (Nat.le_refl _), rfl, rfl, fun l hl => by rw [SqB.inj I hl hqx]; exact hx, fun l hl => by rw [SqB.inj I hl hqy]; exact hy⟩, ⟨z'', ?_, ⟨x1, x2, ?_⟩, ?_, ?_⟩, fun c hcm => ?_⟩
    · exact (sb.2 _ D.TIz).trans (hk _ _ D.TIz D.TITO D.TIi1 D.TIi2 hTI)
    · exact (sb.2 _ D.TOz).trans TO'
    · exact s1'.1.at fun o q => (sb.2 _ (fun zz => D.zf1 (zz ▸ D.mem1))).trans q
    · exact s2'.1.at fun o q => (sb.2 _ (fun zz => D.zf2 (zz ▸ D.mem2))).trans q
    · have hlt : c < s.heap.objs.size := by
        have e' : c = z ∨ c = TI ∨ c = TO ∨ c = i1 ∨ c = i2 := by simpa using hcm
        rcases e' with q | q | q | q | q
        · rw [q]; exact hzl
        · rw [q]; exact Heap.lt_size hTI
        · rw [q]; exact Heap.lt_size hTO
        · rw [q]; obtain ⟨_, _, e1, _⟩ := h1.rec; exact Heap.lt_size e1
        · rw [q]; obtain ⟨_, _, e2, _⟩ := h2.rec; exact Heap.lt_size e2
      rw [upd_ne (Nat.ne_of_lt hlt)]
      exact (hf c hcm).1
  done := by
    intro X hP hw hK hc i pins s σ H E I hf st hg
    subst hP hw hK
    obtain ⟨hz, hTI, ⟨x0, y0, hTO⟩, h1, h2⟩ := st
    obtain ⟨xs, ys, hqx, hqy, l1, l2, hend⟩ := hg
    obtain ⟨its, rv, p, _, _⟩ := hqx.get I
    obtain ⟨its2, rv2, p2, _, _⟩ := hqy.get I
    have e1 := rv.length
    have e2 := rv2.length
    have hh : X.A.in1.handled = none := I.ok.hd hc
    exact wpAny_pyNext_zipD2_end D (drawsB b1 hh i1 a1 n1 its.toArray) (drawsB b2 hh i2 a2 n2 its2.toArray) hz hTI hTO ⟨h1, p⟩ ⟨h2, p2⟩ (by rw [List.size_toArray]; omega) (by rw [List.size_toArray]; omega) (by rw [List.size_toArray, List.size_toArray]; omega) fun h' tk hk => ⟨rfl, I.turnedL (t' := tk) (ch := [z, TI, TO, i1, i2]) (fun c o hb q =>
      hk c o (fun q' => hb (by simp [q'])) (fun q' => hb (by simp [q'])) (fun q' => hb (by simp [q'])) (fun q' => hb (by simp [q'])) q) hf⟩
  self := fun A i s Q E st h => wpAny_pyIter_zip st.1 h
def iZipB (K : PySem.W.Frag) (ta : TA) : TI := fun σ H R => ta σ H fun vs H1 => ∃ b1 b2 a1 a2 xs ys, vs = [.ref a1, .ref a2] ∧ SqB K b1 H1 a1 xs ∧ SqB K b2 H1 a2 ys ∧ R (ItZ K b1 b2 a1 a2) H1
theorem pi_zipB {e e2 : Expr} {ta : TA} {p pos tpos : Pos} {elts : List Expr} {kk : Nat} (hg : Gl X "zip") (hm : X.mg "zip" = none) (ha : PA X [e, e2] ta)
    (hs : starEach [e, e2] X.env = (false, eval e X.env) :: starEach [e2] X.env := by rfl) (hpl : (backTo pos (starEach [e2] X.env)).any (·.1) = false := by rfl) :
    PI X (.Tuple elts kk tpos) (.Call (.Name "zip" p) [e, e2] [] pos) (iZipB X.K ta) := ⟨fun pins s σ H R I h => by
  refine Call_ (ld_blt I hg hm PyProof.Rows.boot_zip (PyProof.Rows.callWith_type1 (thn (ha.run pos pins s σ H _ I h) fun us s1 ⟨vs, H1, I1, r1, q1⟩ => ?_) hs hpl))
  obtain ⟨b1, b2, a1, a2, xs, ys, ex, hqx, hqy, q⟩ := q1
  subst ex
  obtain ⟨u1, u2, rfl, ru1, ru2⟩ := r1.two
  cases ru1
  cases ru2
  obtain ⟨its, rv, p1, _, la⟩ := hqx.get I1
  obtain ⟨its2, rv2, p2, _, lb⟩ := hqy.get I1
  refine zip_begins2 (beginsB b1 a1 its.toArray) (beginsB b2 a2 its2.toArray) p1 p2 fun h' hz hTI hTO h1 h2 hsz hk => wpAny_pyIter_zip hz ?_
  have I2 : Inv X pins σ H1 { s1 with heap := h' } := I1.kept (t' := s1.toks) hk
  have D := zip_sep2 (N := s1.heap.objs.size) (fp1 := [a1]) (fp2 := [a2]) (by simpa using la) (by simpa using lb)
  refine ⟨s1.heap.objs.size + 4, [s1.heap.objs.size + 4, s1.heap.objs.size + 2, s1.heap.objs.size + 3, s1.heap.objs.size, s1.heap.objs.size + 1], _, _, H1, rfl, I2, turn_zipB b1 b2 D (Nat.ne_of_lt la) (Nat.ne_of_lt (Nat.lt_succ_of_lt lb)), ⟨hz, hTI, ⟨_, _, hTO⟩, iterB_new h1, iterB_new h2⟩, fun c hcm => ?_, q⟩
  have hle : s1.heap.objs.size ≤ c := by
    have e' : c = s1.heap.objs.size + 4 ∨ c = s1.heap.objs.size + 2 ∨ c = s1.heap.objs.size + 3 ∨ c = s1.heap.objs.size ∨ c = s1.heap.objs.size + 1 := by simpa using hcm
    rcases e' with z | z | z | z | z <;> rw [z] <;> first | exact Nat.le_refl _ | exact Nat.le_add_right _ _
  exact I1.fpOk hle (I1.hok.fresh hle)⟩

/-! ### methods of tuples -/
def tTM (K : PySem.W.Frag) (r : V → List V → Hp → VK → Prop) (to : TE) (t : TA) : TE := fun σ H Q => to σ H fun x H1 => (∃ a xs, x = .ref a ∧ SqN K H1 a xs) ∧ t σ H1 fun xs H2 => r x xs H2 Q
theorem pe_tm {o e : Expr} {es : List Expr} {to : TE} {t : TA} {name : Str} {apos cpos : Pos} {id : String} {r : V → List V → Hp → VK → Prop} (pa : PlainAttrs "tuple") (slot : Slot "tuple" name id) (hty : typeOf (.builtin id) = pure (.type "method_descriptor")) (hm : MtR X id r) (ho : PE X o to) (ha : PA X (e :: es) t)
    (hbase : attributeBase o name X.env (eval o X.env) = eval o X.env := by rfl)
    (hfew : ((backTo cpos (starEach (e :: es) X.env)).all (fun x => !x.1) && (backToKw cpos (keywordEach [] X.env)).all (fun x => x.1.isSome) && decide ((e :: es).length + ([] : List Keyword).length + (if ([] : List Keyword).isEmpty then 0 else 1) < 30)) = true := by rfl)
    (hline : (apos.endLine == cpos.line) = true := by rfl) (hs : starEach (e :: es) X.env = (false, eval e X.env) :: starEach es X.env := by rfl) (hplain : (backTo cpos (starEach es X.env)).any (·.1) = false := by rfl) :
    PE X (.Call (.Attribute o name apos) (e :: es) [] cpos) (tTM X.K r to t) := ⟨fun pins s σ H Q I h => by
  refine wpAny_Call_method_late hbase hfew hline rfl (thn (ho.run pins s σ H _ I h) fun v s1 ⟨x, H1, I1, r1, ⟨a, xs, ex, ty⟩, q1⟩ => ?_)
  subst ex
  obtain rfl : v = Value.ref a := r1
  obtain ⟨its, rv, ⟨ot, hot, hct, n, hdt⟩, _⟩ := I1.tuple ty.t
  have hdd : ot.dict = none := by
    rcases ty with ⟨ob, hb, hd⟩ | ⟨ob, its, n, hk, hc, hd, _⟩
    · have q := (I1.hok a _ hb).1
      rw [hot] at q
      rw [Option.some.inj q]; exact hd
    · have q := I1.kIn a ob hk
      rw [hot] at q
      rw [Option.some.inj q]; exact hd
  refine ⟨"tuple", id, pa, slot, hty, ⟨ot, hot, hct⟩, fun b e => ⟨ot, by cases e; exact hot, hdd⟩, ?_⟩
  have hA := ha.run cpos pins s1 σ H1 _ I1 q1
  rw [hs] at hA ⊢
  refine Calls.callWith_builtin (by show (false || (backTo cpos (starEach es X.env)).any (·.1)) = false; rw [hplain] <;> rfl) (Calls.evalArgs_plain ?_)
  exact thn hA fun us s2 ⟨vs, H2, I2, r2, q2⟩ => hm pins s2 σ H2 (.ref a) vs (.ref a) us Q I2 rfl r2 q2⟩
end
end L2
set_option Elab.async false
set_option linter.all false
set_option maxRecDepth 100000
/-! # Ab: an abstract reading of Python over HandS: values as data, a memory of cells by number -/
namespace Ab
open PySem L2

/-- abstract values: tuples are data, lists, dicts, instances are places of the memory -/
inductive D where
  | non
  | bl (b : Bool)
  | int (i : Int)
  | str (x : Str)
  | ref (n : Nat)
  | fn (f : Str)
  | tup (ds : List D)

inductive Cell where
  | lst (ds : List D)
  | rol (ds : List D)
  | dic (kvs : List (Key × D))
  | dit (kvs : List (List Int × D))
  | ins (c : Str) (fs : List (Str × D))
  | xd (fs : List (Str × D))
  | exc
abbrev Mem := List Cell
/-- an exception: its class's name, where its fields stand (none: it has none) -/
structure Ex where
  c : Str
  d : Option Nat

structure Glb where
  fa : Str → Addr
  ca : Str → Addr

section
variable (K : PySem.W.Frag) (g : Glb)
mutual
inductive Rep (A : List Addr) (H : Hp) : V → D → Prop
  | non : Rep A H .non .non
  | bl (b : Bool) : Rep A H (.bl b) (.bl b)
  | int (i : Int) : Rep A H (.int i) (.int i)
  | str (x : Str) : Rep A H (.str x) (.str x)
  | ref {n : Nat} {a : Addr} : A[n]? = some a → Rep A H (.ref a) (.ref n)
  | fn (f : Str) : Rep A H (.ref (g.fa f)) (.fn f)
  | tup {a : Addr} {vs : List V} {ds : List D} : SqN K H a vs → RepL A H vs ds → Rep A H (.ref a) (.tup ds)
inductive RepL (A : List Addr) (H : Hp) : List V → List D → Prop
  | nil : RepL A H [] []
  | cons {v : V} {vs : List V} {d : D} {ds : List D} : Rep A H v d → RepL A H vs ds → RepL A H (v :: vs) (d :: ds)
end
/-- entries of a dict, fields of an object -/
inductive RepP {κ : Type} (A : List Addr) (H : Hp) : List (κ × V) → List (κ × D) → Prop
  | nil : RepP A H [] []
  | cons {k : κ} {v : V} {d : D} {vs : List (κ × V)} {ds : List (κ × D)} : Rep K g A H v d → RepP A H vs ds → RepP A H ((k, v) :: vs) ((k, d) :: ds)

/-- the dict at a, keys are tuples of ints: each key, the tuple that it is, what it holds -/
def DtH (a : Addr) (ks : List (List Int × Addr × V)) (h : Heap) : Prop := ∃ (xs : List (List Int × Addr × Value)) (o : Obj) (es : Array DictEntry) (ep : Nat),
  Paired (fun p q => p.1 = q.1 ∧ p.2.1 = q.2.1 ∧ RelV p.2.2 q.2.2) ks xs ∧ h.get? a = some o ∧ o.ExactDict ∧ o.data = .dict es ep ∧
    (∀ P w, es.toList = xs.map (entryOfKey (tupleKind (intKind P w)))) ∧ (xs.map (·.1)).Nodup
inductive RepT (A : List Addr) (H : Hp) : List (List Int × Addr × V) → List (List Int × D) → Prop
  | nil : RepT A H [] []
  | cons {k : List Int} {b : Addr} {v : V} {d : D} {vs : List (List Int × Addr × V)} {ds : List (List Int × D)} : SqN K H b (k.map V.int) → Rep K g A H v d → RepT A H vs ds → RepT A H ((k, b, v) :: vs) ((k, d) :: ds)
/-- a list that is only read: locked, or of the written part -/
def SqF (H : Hp) (a : Addr) (xs : List V) : Prop :=
  (∃ o, H a = some (.frz o (.lst xs))) ∨
    ∃ (o : Obj) (its : Array Value) (n : Nat), K.lookup a = some o ∧ o.cls = .type "list" ∧ o.dict = none ∧ o.data = .seq its n ∧ its.size ≤ sizeLine ∧ Vals xs its.toList
def CellR (A : List Addr) (H : Hp) (a : Addr) : Cell → Prop
  | .lst ds => ∃ vs, H a = some (.lst vs) ∧ RepL K g A H vs ds
  | .rol ds => ∃ vs, SqF K H a vs ∧ RepL K g A H vs ds
  | .dic kvs => ∃ ks, H a = some (.dK ks) ∧ RepP K g A H ks kvs
  | .dit kvs => ∃ ks, H a = some (.ext (DtH a ks)) ∧ RepT K g A H ks kvs ∧ (a == sysModules) = false ∧ kvs.length ≤ sizeLine
  | .ins c fs => ∃ dx fv, H a = some (.ins (g.ca c) dx fv) ∧ RepP K g A H fv fs
  | .xd fs => ∃ fv, H a = some (.xd fv) ∧ RepP K g A H fv fs
  | .exc => True

/-- is its object tracked at its own address -/
def trk : Cell → Bool
  | .exc => false
  | .rol _ => false
  | _ => true
structure Rel (A : List Addr) (H : Hp) (mem : Mem) : Prop where
  len : A.length = mem.length
  inj : ∀ (i j : Nat) (a : Addr) (c c' : Cell), A[i]? = some a → A[j]? = some a → mem[i]? = some c → mem[j]? = some c' → trk c = true → trk c' = true → i = j
  cell : ∀ (i : Nat) (a : Addr) (c : Cell), A[i]? = some a → mem[i]? = some c → CellR K g A H a c
structure Stab (A : List Addr) (H : Hp) (A' : List Addr) (H' : Hp) : Prop where
  pre : A <+: A'
  tup : ∀ a xs, SqN K H a xs → SqN K H' a xs
end
theorem Stab.refl {K : PySem.W.Frag} {A : List Addr} {H : Hp} : Stab K A H A H := ⟨List.prefix_refl _, fun _ _ h => h⟩
theorem Stab.trans {K : PySem.W.Frag} {A A1 A2 : List Addr} {H H1 H2 : Hp} (a : Stab K A H A1 H1) (b : Stab K A1 H1 A2 H2) : Stab K A H A2 H2 := ⟨a.pre.trans b.pre, fun c xs h => b.tup c xs (a.tup c xs h)⟩
theorem pre_get {A A' : List Addr} {n : Nat} {a : Addr} (h : A <+: A') (e : A[n]? = some a) : A'[n]? = some a := by
  obtain ⟨t, rfl⟩ := h
  rw [List.getElem?_append_left (List.getElem?_eq_some_iff.mp e).1]
  exact e

section
variable {K : PySem.W.Frag} {g : Glb} {A A' : List Addr} {H H' : Hp}
mutual
theorem Rep.stab (s : Stab K A H A' H') : ∀ {v : V} {d : D}, Rep K g A H v d → Rep K g A' H' v d
  | _, _, .non => .non
  | _, _, .bl b => .bl b
  | _, _, .int b => .int b
  | _, _, .str b => .str b
  | _, _, .ref e => .ref (pre_get s.pre e)
  | _, _, .fn f => .fn f
  | _, _, .tup h l => .tup (s.tup _ _ h) (RepL.stab s l)
theorem RepL.stab (s : Stab K A H A' H') : ∀ {vs : List V} {ds : List D}, RepL K g A H vs ds → RepL K g A' H' vs ds
  | _, _, .nil => .nil
  | _, _, .cons h l => .cons (Rep.stab s h) (RepL.stab s l)
end
theorem RepP.stab {κ : Type} (s : Stab K A H A' H') : ∀ {vs : List (κ × V)} {ds : List (κ × D)}, RepP K g A H vs ds → RepP K g A' H' vs ds
  | _, _, .nil => .nil
  | _, _, .cons h l => .cons (h.stab s) (RepP.stab s l)
theorem RepT.stab (s : Stab K A H A' H') : ∀ {vs : List (List Int × Addr × V)} {ds : List (List Int × D)}, RepT K g A H vs ds → RepT K g A' H' vs ds
  | _, _, .nil => .nil
  | _, _, .cons h1 h l => .cons (s.tup _ _ h1) (h.stab s) (RepT.stab s l)
theorem RepT.length : ∀ {vs : List (List Int × Addr × V)} {ds : List (List Int × D)}, RepT K g A H vs ds → vs.length = ds.length
  | _, _, .nil => rfl
  | _, _, .cons _ _ l => by simp [RepT.length l]
theorem RepL.length : ∀ {vs : List V} {ds : List D}, RepL K g A H vs ds → vs.length = ds.length
  | _, _, .nil => rfl
  | _, _, .cons _ l => by simp [RepL.length l]
theorem RepP.length {κ : Type} : ∀ {vs : List (κ × V)} {ds : List (κ × D)}, RepP K g A H vs ds → vs.length = ds.length
  | _, _, .nil => rfl
  | _, _, .cons _ l => by simp [RepP.length l]
theorem RepL.get : ∀ {vs : List V} {ds : List D} {i : Nat} {d : D}, RepL K g A H vs ds → ds[i]? = some d → ∃ v, vs[i]? = some v ∧ Rep K g A H v d
  | _, _, 0, _, .cons h _, e => by simp at e; subst e; exact ⟨_, rfl, h⟩
  | _, _, i + 1, d, .cons _ l, e => by
    obtain ⟨v, h1, h2⟩ := RepL.get (i := i) (d := d) l (by simpa using e)
    exact ⟨v, by simpa using h1, h2⟩
  | _, _, i, _, .nil, e => by simp at e
theorem RepL.get' : ∀ {vs : List V} {ds : List D} {i : Nat} {v : V}, RepL K g A H vs ds → vs[i]? = some v → ∃ d, ds[i]? = some d ∧ Rep K g A H v d
  | _, _, 0, _, .cons h _, e => by simp at e; subst e; exact ⟨_, rfl, h⟩
  | _, _, i + 1, d, .cons _ l, e => by
    obtain ⟨v, h1, h2⟩ := RepL.get' (i := i) (v := d) l (by simpa using e)
    exact ⟨v, by simpa using h1, h2⟩
  | _, _, i, _, .nil, e => by simp at e
theorem RepL.append : ∀ {vs ws : List V} {ds es : List D}, RepL K g A H vs ds → RepL K g A H ws es → RepL K g A H (vs ++ ws) (ds ++ es)
  | _, _, _, _, .nil, s => s
  | _, _, _, _, .cons h l, s => .cons h (RepL.append l s)
theorem RepL.take : ∀ {vs : List V} {ds : List D} (n : Nat), RepL K g A H vs ds → RepL K g A H (vs.take n) (ds.take n)
  | _, _, 0, _ => .nil
  | _, _, _ + 1, .nil => .nil
  | _, _, n + 1, .cons h l => .cons h (RepL.take n l)
theorem RepL.drop : ∀ {vs : List V} {ds : List D} (n : Nat), RepL K g A H vs ds → RepL K g A H (vs.drop n) (ds.drop n)
  | _, _, 0, h => h
  | _, _, _ + 1, .nil => .nil
  | _, _, n + 1, .cons _ l => RepL.drop n l
theorem RepL.set : ∀ {vs : List V} {ds : List D} {v : V} {d : D} (n : Nat), RepL K g A H vs ds → Rep K g A H v d → RepL K g A H (vs.set n v) (ds.set n d)
  | _, _, _, _, 0, .cons _ l, r => .cons r l
  | _, _, _, _, n + 1, .cons h l, r => .cons h (RepL.set n l r)
  | _, _, _, _, _, .nil, _ => .nil
theorem RepL.eraseIdx : ∀ {vs : List V} {ds : List D} (n : Nat), RepL K g A H vs ds → RepL K g A H (vs.eraseIdx n) (ds.eraseIdx n)
  | _, _, 0, .cons _ l => l
  | _, _, n + 1, .cons h l => .cons h (RepL.eraseIdx n l)
  | _, _, _, .nil => .nil
theorem RepL.dropLast : ∀ {vs : List V} {ds : List D}, RepL K g A H vs ds → RepL K g A H vs.dropLast ds.dropLast
  | _, _, .nil => .nil
  | _, _, .cons _ .nil => .nil
  | _, _, .cons h (.cons h2 l) => .cons h (RepL.dropLast (.cons h2 l))
theorem CellR.stab {a : Addr} {c : Cell} (s : Stab K A H A' H') (hl : ∀ vs, H a = some (.lst vs) → H' a = some (.lst vs)) (hq : ∀ vs, SqF K H a vs → SqF K H' a vs) (hd : ∀ vs, H a = some (.dK vs) → H' a = some (.dK vs))
    (hi : ∀ C dx vs, H a = some (.ins C dx vs) → H' a = some (.ins C dx vs)) (hx : ∀ vs, H a = some (.xd vs) → H' a = some (.xd vs)) (he : ∀ φ, H a = some (.ext φ) → H' a = some (.ext φ)) (h : CellR K g A H a c) : CellR K g A' H' a c := by
  cases c with
  | lst ds => obtain ⟨vs, e, r⟩ := h; exact ⟨vs, hl _ e, r.stab s⟩
  | rol ds => obtain ⟨vs, e, r⟩ := h; exact ⟨vs, hq _ e, r.stab s⟩
  | dic ds => obtain ⟨vs, e, r⟩ := h; exact ⟨vs, hd _ e, r.stab s⟩
  | dit ds => obtain ⟨vs, e, r, z⟩ := h; exact ⟨vs, he _ e, r.stab s, z⟩
  | ins c ds => obtain ⟨dx, vs, e, r⟩ := h; exact ⟨dx, vs, hi _ _ _ e, r.stab s⟩
  | xd ds => obtain ⟨vs, e, r⟩ := h; exact ⟨vs, hx _ e, r.stab s⟩
  | exc => trivial

/-! ### the heap changes: a new object | a tracked one is written -/
theorem sqT_new {p : Addr} {o : HO} (hp : H p = none) {a : Addr} {xs : List V} (h : SqN K H a xs) : SqN K (upd H p o) a xs := by
  rcases h with ⟨ob, h, hd⟩ | h
  · exact .inl ⟨ob, by rw [upd_ne (ne_of_none h hp)]; exact h, hd⟩
  · exact .inr h
theorem SqF.l {a : Addr} {xs : List V} (h : SqF K H a xs) : SqL K H a xs := by
  rcases h with ⟨ob, h⟩ | h
  · exact .inl (.inr ⟨ob, h⟩)
  · exact .inr h
theorem sqL_new {p : Addr} {o : HO} (hp : H p = none) {a : Addr} {xs : List V} (h : SqF K H a xs) : SqF K (upd H p o) a xs := by
  rcases h with ⟨ob, h⟩ | h
  · exact .inl ⟨ob, by rw [upd_ne (ne_of_none h hp)]; exact h⟩
  · exact .inr h
theorem cell_new {p a : Addr} {o : HO} {c : Cell} (hp : H p = none) (s : Stab K A H A' (upd H p o)) (h : CellR K g A H a c) : CellR K g A' (upd H p o) a c :=
  h.stab s (fun _ e => by rw [upd_ne (ne_of_none e hp)]; exact e) (fun _ e => sqL_new hp e) (fun _ e => by rw [upd_ne (ne_of_none e hp)]; exact e) (fun _ _ _ e => by rw [upd_ne (ne_of_none e hp)]; exact e) (fun _ e => by rw [upd_ne (ne_of_none e hp)]; exact e) (fun _ e => by rw [upd_ne (ne_of_none e hp)]; exact e)
/-- a new tuple (or any object that no cell tells) -/
theorem Rel.new {mem : Mem} {p : Addr} {o : HO} (R : Rel K g A H mem) (hp : H p = none) : Stab K A H A (upd H p o) ∧ Rel K g A (upd H p o) mem := by
  have s : Stab K A H A (upd H p o) := ⟨List.prefix_refl _, fun _ _ h => sqT_new hp h⟩
  exact ⟨s, R.len, R.inj, fun i a c e1 e2 => cell_new hp s (R.cell i a c e1 e2)⟩
theorem snoc_get {α : Type} {l : List α} {x y : α} {i : Nat} (h : (l ++ [x])[i]? = some y) : (i < l.length ∧ l[i]? = some y) ∨ (i = l.length ∧ y = x) := by
  by_cases hi : i < l.length
  · rw [List.getElem?_append_left hi] at h
    exact .inl ⟨hi, h⟩
  · rw [List.getElem?_append_right (by omega)] at h
    have e : i - l.length = 0 := by
      by_cases z : i - l.length = 0
      · exact z
      · rw [List.getElem?_eq_none (by simp; omega)] at h
        cases h
    rw [e] at h
    exact .inr ⟨by omega, by simpa using h.symm⟩
theorem trk_some {a : Addr} {c : Cell} (h : CellR K g A H a c) (t : trk c = true) : ∃ o, H a = some o := by
  cases c with
  | lst ds => obtain ⟨vs, e, _⟩ := h; exact ⟨_, e⟩
  | dic ds => obtain ⟨vs, e, _⟩ := h; exact ⟨_, e⟩
  | dit ds => obtain ⟨vs, e, _⟩ := h; exact ⟨_, e⟩
  | ins c ds => obtain ⟨_, vs, e, _⟩ := h; exact ⟨_, e⟩
  | xd ds => obtain ⟨vs, e, _⟩ := h; exact ⟨_, e⟩
  | rol ds => cases t
  | exc => cases t
/-- a new cell -/
theorem Rel.alloc {mem : Mem} {p : Addr} {o : HO} {c : Cell} (R : Rel K g A H mem) (hp : H p = none) (hc : ∀ s : Stab K A H (A ++ [p]) (upd H p o), CellR K g (A ++ [p]) (upd H p o) p c) : Stab K A H (A ++ [p]) (upd H p o) ∧ Rel K g (A ++ [p]) (upd H p o) (mem ++ [c]) ∧ (A ++ [p])[mem.length]? = some p := by
  have s : Stab K A H (A ++ [p]) (upd H p o) := ⟨⟨[p], rfl⟩, fun _ _ h => sqT_new hp h⟩
  have frsh : ∀ {i : Nat} {a : Addr} {x : Cell}, A[i]? = some a → mem[i]? = some x → trk x = true → a ≠ p := fun {i a x} e1 e2 t z => by
    obtain ⟨ob, q⟩ := trk_some (R.cell _ _ _ e1 e2) t
    rw [z, hp] at q; cases q
  refine ⟨s, ⟨by simp [R.len], fun i j a x y h1 h2 h3 h4 t1 t2 => ?_, fun i a x h1 h2 => ?_⟩, by rw [← R.len]; simp⟩
  · rcases snoc_get h1 with ⟨l1, h1⟩ | ⟨l1, h1⟩ <;> rcases snoc_get h2 with ⟨l2, h2⟩ | ⟨l2, h2⟩ <;> rcases snoc_get h3 with ⟨l3, h3⟩ | ⟨l3, h3⟩ <;> rcases snoc_get h4 with ⟨l4, h4⟩ | ⟨l4, h4⟩ <;>
      first
        | exact R.inj i j a x y h1 h2 h3 h4 t1 t2
        | (exfalso; have := R.len; omega)
        | exact absurd h1 (by rw [h2]; exact (fun z => frsh h1 h3 t1 z))
        | exact absurd h2 (frsh h1 h3 t1)
        | exact absurd h1 (frsh h2 h4 t2)
        | (have := R.len; omega)
  · rcases snoc_get h1 with ⟨l1, h1⟩ | ⟨l1, h1⟩
    · rcases snoc_get h2 with ⟨l2, h2⟩ | ⟨l2, h2⟩
      · exact cell_new hp s (R.cell _ _ _ h1 h2)
      · exact absurd l1 (by have := R.len; omega)
    · rcases snoc_get h2 with ⟨l2, h2⟩ | ⟨l2, h2⟩
      · exact absurd l2 (by have := R.len; omega)
      · subst h1; subst h2; exact hc s
/-- what writing at a may not touch -/
theorem sqT_write {p : Addr} {o o' : HO} (hp : H p = some o) (hf : ∀ ob xs, o ≠ .frz ob xs) {a : Addr} {xs : List V} (h : SqN K H a xs) : SqN K (upd H p o') a xs := by
  rcases h with ⟨ob, h, hd⟩ | h
  · exact .inl ⟨ob, by rw [upd_ne (ne_of h hp (fun z => hf _ _ z.symm))]; exact h, hd⟩
  · exact .inr h
theorem sqF_write {p : Addr} {o o' : HO} (hp : H p = some o) (hf : ∀ ob xs, o ≠ .frz ob xs) {a : Addr} {xs : List V} (h : SqF K H a xs) : SqF K (upd H p o') a xs := by
  rcases h with ⟨ob, h⟩ | h
  · exact .inl ⟨ob, by rw [upd_ne (ne_of h hp (fun z => hf _ _ z.symm))]; exact h⟩
  · exact .inr h
theorem set_get {α : Type} {l : List α} {x y : α} {n i : Nat} (h : (l.set n x)[i]? = some y) : (i = n ∧ y = x) ∨ (i ≠ n ∧ l[i]? = some y) := by
  by_cases e : i = n
  · subst e
    rw [List.getElem?_set_self' ] at h
    cases q : l[i]? with
    | none => rw [q] at h; cases h
    | some z => rw [q] at h; exact .inl ⟨rfl, (Option.some.inj h).symm⟩
  · rw [List.getElem?_set_ne (Ne.symm e)] at h
    exact .inr ⟨e, h⟩
/-- a tracked cell is written -/
theorem Rel.write {mem : Mem} {n : Nat} {p : Addr} {o' : HO} {c c' : Cell} (R : Rel K g A H mem) (hn : mem[n]? = some c) (ha : A[n]? = some p) (t : trk c = true) (t' : trk c' = true)
    (hc : ∀ s : Stab K A H A (upd H p o'), CellR K g A (upd H p o') p c') : Stab K A H A (upd H p o') ∧ Rel K g A (upd H p o') (mem.set n c') := by
  have hcr := R.cell _ _ _ ha hn
  obtain ⟨o, hp, ht, hf⟩ : ∃ o, H p = some o ∧ (∀ xs, o ≠ .tup xs) ∧ (∀ ob xs, o ≠ .frz ob xs) := by
    cases c with
    | lst ds => obtain ⟨vs, e, _⟩ := hcr; exact ⟨_, e, fun _ z => (by cases z), fun _ _ z => (by cases z)⟩
    | dic ds => obtain ⟨vs, e, _⟩ := hcr; exact ⟨_, e, fun _ z => (by cases z), fun _ _ z => (by cases z)⟩
    | dit ds => obtain ⟨vs, e, _⟩ := hcr; exact ⟨_, e, fun _ z => (by cases z), fun _ _ z => (by cases z)⟩
    | ins c ds => obtain ⟨_, vs, e, _⟩ := hcr; exact ⟨_, e, fun _ z => (by cases z), fun _ _ z => (by cases z)⟩
    | xd ds => obtain ⟨vs, e, _⟩ := hcr; exact ⟨_, e, fun _ z => (by cases z), fun _ _ z => (by cases z)⟩
    | rol ds => cases t
    | exc => cases t
  have s : Stab K A H A (upd H p o') := ⟨List.prefix_refl _, fun _ _ h => sqT_write hp hf h⟩
  refine ⟨s, by rw [List.length_set]; exact R.len, fun i j a x y h1 h2 h3 h4 t1 t2 => ?_, fun i a x h1 h2 => ?_⟩
  · have k : ∀ {i : Nat} {x : Cell}, (mem.set n c')[i]? = some x → trk x = true → ∃ z, mem[i]? = some z ∧ trk z = true := fun {i x} h tx => by
      rcases set_get h with ⟨rfl, _⟩ | ⟨_, h⟩
      · exact ⟨c, hn, t⟩
      · exact ⟨x, h, tx⟩
    obtain ⟨z1, m1, u1⟩ := k h3 t1
    obtain ⟨z2, m2, u2⟩ := k h4 t2
    exact R.inj i j a z1 z2 h1 h2 m1 m2 u1 u2
  · rcases set_get h2 with ⟨rfl, rfl⟩ | ⟨ne, h2⟩
    · rw [ha] at h1; cases h1; exact hc s
    · have hr := R.cell _ _ _ h1 h2
      have nap : trk x = true → a ≠ p := fun tx z => ne (R.inj i n a x c h1 (by rw [z]; exact ha) h2 hn tx t)
      cases x with
      | lst ds => obtain ⟨vs, e, r⟩ := hr; exact ⟨vs, by rw [upd_ne (nap rfl)]; exact e, r.stab s⟩
      | rol ds => obtain ⟨vs, e, r⟩ := hr; exact ⟨vs, sqF_write hp hf e, r.stab s⟩
      | dic ds => obtain ⟨vs, e, r⟩ := hr; exact ⟨vs, by rw [upd_ne (nap rfl)]; exact e, r.stab s⟩
      | dit ds => obtain ⟨vs, e, r, z⟩ := hr; exact ⟨vs, by rw [upd_ne (nap rfl)]; exact e, r.stab s, z⟩
      | ins c ds => obtain ⟨dx, vs, e, r⟩ := hr; exact ⟨dx, vs, by rw [upd_ne (nap rfl)]; exact e, r.stab s⟩
      | xd ds => obtain ⟨vs, e, r⟩ := hr; exact ⟨vs, by rw [upd_ne (nap rfl)]; exact e, r.stab s⟩
      | exc => trivial
end

/-! ### what an abstract run gives -/
inductive R (α : Type) where
  | ok (a : α) (m : Mem)
  | er (x : Ex) (m : Mem)
  | no
abbrev Env' := List (Option D)
abbrev AE := Env' → Mem → R D
abbrev AA := Env' → Mem → R (List D)
abbrev AT := Env' → Mem → R Bool
abbrev AF := List D → Mem → R D
def R.bind {α β : Type} (r : R α) (f : α → Mem → R β) : R β := match r with
  | .ok a m => f a m
  | .er x m => .er x m
  | .no => .no
theorem R.bind_ok {α β : Type} {a : α} {m : Mem} {f : α → Mem → R β} : (R.ok a m).bind f = f a m := rfl
theorem R.bind_er {α β : Type} {x : Ex} {m : Mem} {f : α → Mem → R β} : (R.er x m : R α).bind f = .er x m := rfl
theorem R.bind_no {α β : Type} {f : α → Mem → R β} : (R.no : R α).bind f = .no := rfl
def ExR (g : Glb) (A : List Addr) (x : Ex) (c : Value) (dd : Option Addr) : Prop := c = .ref (g.ca x.c) ∧ match x.d with
  | none => dd = none
  | some n => ∃ a : Addr, dd = some a ∧ A[n]? = some a
theorem ExR.pre {g : Glb} {A A' : List Addr} {x : Ex} {c : Value} {dd : Option Addr} (h : ExR g A x c dd) (p : A <+: A') : ExR g A' x c dd := by
  obtain ⟨h1, h2⟩ := h
  refine ⟨h1, ?_⟩
  cases q : x.d with
  | none => rw [q] at h2; exact h2
  | some n =>
    rw [q] at h2
    obtain ⟨a, e1, e2⟩ := h2
    exact ⟨a, e1, pre_get p e2⟩
/-- what must hold of the ends -/
def Post (K : PySem.W.Frag) (g : Glb) {α β : Type} (rl : List Addr → Hp → β → α → Prop) (A : List Addr) (H : Hp) (r : R α) (Q : β → Hp → Prop) (W : Value → Option Addr → Hp → Prop) : Prop := match r with
  | .ok d m => ∀ v A' H', Stab K A H A' H' → Rel K g A' H' m → rl A' H' v d → Q v H'
  | .er x m => ∀ c dd A' H', Stab K A H A' H' → Rel K g A' H' m → ExR g A' x c dd → W c dd H'
  | .no => False
section
variable {K : PySem.W.Frag} {g : Glb} {A A' : List Addr} {H H' : Hp} {α β γ δ : Type} {rl : List Addr → Hp → β → α → Prop} {rl2 : List Addr → Hp → δ → γ → Prop} {Q1 : β → Hp → Prop} {Q2 : δ → Hp → Prop} {W : Value → Option Addr → Hp → Prop}
theorem Post.up {r : R α} (s : Stab K A H A' H') (p : Post K g rl A H r Q1 W) : Post K g rl A' H' r Q1 W := by
  cases r with
  | ok d m => exact fun v A2 H2 s2 R2 r2 => p v A2 H2 (s.trans s2) R2 r2
  | er x m => exact fun c dd A2 H2 s2 R2 r2 => p c dd A2 H2 (s.trans s2) R2 r2
  | no => exact p
theorem Post.bnd {r : R α} {f : α → Mem → R γ} (p : Post K g rl2 A H (r.bind f) Q2 W) (k : ∀ v A' H' d m, Stab K A H A' H' → Rel K g A' H' m → rl A' H' v d → Post K g rl2 A' H' (f d m) Q2 W → Q1 v H') : Post K g rl A H r Q1 W := by
  cases r with
  | ok d m => exact fun v A2 H2 s2 R2 r2 => k v A2 H2 d m s2 R2 r2 (Post.up s2 p)
  | er x m => exact p
  | no => exact p
end
def EnvR (K : PySem.W.Frag) (g : Glb) (A : List Addr) (H : Hp) (σ : L2.St) (env : Env') : Prop := σ.length = env.length ∧ ∀ (i : Nat) (d : D), env[i]? = some (some d) → ∃ v, σ[i]? = some (some v) ∧ Rep K g A H v d
theorem EnvR.stab {K : PySem.W.Frag} {g : Glb} {A A' : List Addr} {H H' : Hp} {σ : L2.St} {env : Env'} (e : EnvR K g A H σ env) (s : Stab K A H A' H') : EnvR K g A' H' σ env :=
  ⟨e.1, fun i d h => by obtain ⟨v, h1, h2⟩ := e.2 i d h; exact ⟨v, h1, h2.stab s⟩⟩
theorem EnvR.set {K : PySem.W.Frag} {g : Glb} {A : List Addr} {H : Hp} {σ : L2.St} {env : Env'} (e : EnvR K g A H σ env) (n : Nat) {v : V} {d : D} (r : Rep K g A H v d) : EnvR K g A H (σ.set n (some v)) (env.set n (some d)) := by
  refine ⟨by simp [e.1], fun i d' h => ?_⟩
  have hi : i < env.length := by
    have := (List.getElem?_eq_some_iff.mp h).1
    rw [List.length_set] at this
    exact this
  rcases set_get h with ⟨rfl, h'⟩ | ⟨ne, h⟩
  · cases h'
    exact ⟨v, by rw [List.getElem?_set_self (by rw [e.1]; exact hi)], r⟩
  · obtain ⟨w, h1, h2⟩ := e.2 i d' h
    exact ⟨w, by rw [List.getElem?_set_ne (Ne.symm ne)]; exact h1, h2⟩
theorem EnvR.drop {K : PySem.W.Frag} {g : Glb} {A : List Addr} {H : Hp} {σ : L2.St} {env : Env'} (e : EnvR K g A H σ env) (n : Nat) (o : Option V) : EnvR K g A H (σ.set n o) (env.set n none) := by
  refine ⟨by simp [e.1], fun i d' h => ?_⟩
  rcases set_get h with ⟨rfl, h'⟩ | ⟨ne, h⟩
  · cases h'
  · obtain ⟨w, h1, h2⟩ := e.2 i d' h
    exact ⟨w, by rw [List.getElem?_set_ne (Ne.symm ne)]; exact h1, h2⟩
/-- places whose objects are told -/
abbrev Gam := List (Nat × Addr)
def Gam.Ok (γ : Gam) (A : List Addr) : Prop := ∀ p ∈ γ, A[p.1]? = some p.2
theorem Gam.Ok.pre {γ : Gam} {A A' : List Addr} (h : γ.Ok A) (p : A <+: A') : γ.Ok A' := fun q hq => pre_get p (h q hq)

/-! ### judgements -/
structure SE (X : Cx) (g : Glb) (γ : Gam) (e : Expr) (a : AE) : Prop where
  out : ∀ W : WX, Takes X W → ∃ t : TE, PE X e t ∧ ∀ σ env A H mem Q, γ.Ok A → EnvR X.K g A H σ env → Rel X.K g A H mem → Post X.K g (Rep X.K g) A H (a env mem) Q (fun c d H' => W c d σ H') → t σ H Q
structure SA (X : Cx) (g : Glb) (γ : Gam) (es : List Expr) (a : AA) : Prop where
  out : ∀ W : WX, Takes X W → ∃ t : TA, PA X es t ∧ ∀ σ env A H mem Q, γ.Ok A → EnvR X.K g A H σ env → Rel X.K g A H mem → Post X.K g (RepL X.K g) A H (a env mem) Q (fun c d H' => W c d σ H') → t σ H Q
structure ST (X : Cx) (g : Glb) (γ : Gam) (e : Expr) (a : AT) : Prop where
  out : ∀ W : WX, Takes X W → ∃ t : TT, PT X e t ∧ ∀ σ env A H mem Q, γ.Ok A → EnvR X.K g A H σ env → Rel X.K g A H mem → Post X.K g (fun _ _ => Eq) A H (a env mem) Q (fun c d H' => W c d σ H') → t σ H Q
end Ab
set_option Elab.async false
set_option linter.all false
set_option maxRecDepth 100000
namespace Ab
open PySem L2

/-! ### expressions: the abstract words -/
def eVar (i : Nat) : AE := fun env m => match env[i]? with
  | some (some d) => .ok d m
  | _ => .no
def eC (d : D) : AE := fun _ m => .ok d m
abbrev F2 := D → D → Mem → R D
abbrev F1 := D → Mem → R D
abbrev FL := List D → Mem → R D
def eOp (f : F2) (a b : AE) : AE := fun env m => (a env m).bind fun x m => (b env m).bind fun y m => f x y m
def eUn (f : F1) (a : AE) : AE := fun env m => (a env m).bind f
def aNil : AA := fun _ m => .ok [] m
def aCons (a : AE) (r : AA) : AA := fun env m => (a env m).bind fun x m => (r env m).bind fun xs m => .ok (x :: xs) m
def eCall (f : FL) (a : AA) : AE := fun env m => (a env m).bind f
def eIf (c : AT) (a b : AE) : AE := fun env m => (c env m).bind fun k m => if k = true then a env m else b env m
def asB (d : D) (m : Mem) : R Bool := match d with
  | .bl b => .ok b m
  | _ => .no
def tVal (a : AE) : AT := fun env m => (a env m).bind asB
def tNt (a : AT) : AT := fun env m => (a env m).bind fun k m => .ok (!k) m
def tAn (a b : AT) : AT := fun env m => (a env m).bind fun k m => if k = true then b env m else .ok false m
def tOrr (a b : AT) : AT := fun env m => (a env m).bind fun k m => if k = true then .ok true m else b env m
def eAnd (a b : AE) : AE := fun env m => ((a env m).bind asB).bind fun k m => if k = true then b env m else .ok (.bl false) m
def eOr (a b : AE) : AE := fun env m => ((a env m).bind asB).bind fun k m => if k = true then .ok (.bl true) m else b env m
def eNot (a : AE) : AE := fun env m => ((a env m).bind asB).bind fun k m => .ok (.bl (!k)) m
/-- a comparison in a row -/
def eChain (f f' : F2) (a b c : AE) : AE := fun env m => (a env m).bind fun x m => (b env m).bind fun y m => ((f x y m).bind asB).bind fun k m => if k = true then (c env m).bind fun z m => f' y z m else .ok (.bl false) m
def mkTup (ds : List D) (m : Mem) : R D := if ds.length ≤ sizeLine then .ok (.tup ds) m else .no
def mkLst (ds : List D) (m : Mem) : R D := if ds.length ≤ sizeLine then .ok (.ref m.length) (m ++ [.lst ds]) else .no
def mkDic (kvs : List (Key × D)) (m : Mem) : R D := .ok (.ref m.length) (m ++ [.dic kvs])

/-! ### the judgement of an operation by values -/
structure OpA (X : Cx) (g : Glb) (f : Value → Value → Sem Value) (F : F2) : Prop where
  out : ∃ r : R2, OpR X f r ∧ ∀ A H mem x y dx dy Q W, Rel X.K g A H mem → Rep X.K g A H x dx → Rep X.K g A H y dy → Post X.K g (Rep X.K g) A H (F dx dy mem) Q W → r x y H Q
structure UnA (X : Cx) (g : Glb) (f : Value → Sem Value) (F : F1) : Prop where
  out : ∃ r, UnR X f r ∧ ∀ A H mem x dx Q W, Rel X.K g A H mem → Rep X.K g A H x dx → Post X.K g (Rep X.K g) A H (F dx mem) Q W → r x H Q
structure CaA (X : Cx) (g : Glb) (f : Value) (F : FL) : Prop where
  out : ∃ r, CallR X f r ∧ ∀ A H mem xs ds Q W, Rel X.K g A H mem → RepL X.K g A H xs ds → Post X.K g (Rep X.K g) A H (F ds mem) Q W → r xs H Q
structure IxA (X : Cx) (g : Glb) (F : F2) : Prop where
  out : ∃ r, IxR X r ∧ ∀ A H mem x y dx dy Q W, Rel X.K g A H mem → Rep X.K g A H x dx → Rep X.K g A H y dy → Post X.K g (Rep X.K g) A H (F dx dy mem) Q W → r x y H Q
structure MtA (X : Cx) (g : Glb) (T id : String) (F : D → FL) : Prop where
  out : ∃ r, MtR X id r ∧ ∀ A H mem x dx xs ds Q W, Rel X.K g A H mem → Rep X.K g A H x dx → RepL X.K g A H xs ds → Post X.K g (Rep X.K g) A H (F dx ds mem) Q W → r x xs H Q

section
variable {X : Cx} {g : Glb} {γ : Gam} {e a b c : Expr} {es : List Expr} {ia ib ic : AE} {aa : AA} {pos : Pos}
theorem se_var (i : Nat) {x : Str} (hN : X.N[i]? = some x := by rfl) (hv : Vis X.env.scope x := by first | exact Or.inl rfl | exact Or.inr (Or.inl rfl) | exact Or.inr (Or.inr rfl)) (hd : (x == ("__debug__" : Str)) = false := by decide)
    (hcd : (x == ("__classdict__" : Str)) = false := by decide) : SE X g γ (.Name x pos) (eVar i) :=
  ⟨fun W tk => ⟨_, pe_var hN hv hd hcd, fun σ env A H mem Q hg he hr hp => by
    unfold eVar at hp
    cases h : env[i]? with
    | none => rw [h] at hp; exact hp.elim
    | some o =>
      cases o with
      | none => rw [h] at hp; exact hp.elim
      | some d =>
        rw [h] at hp
        obtain ⟨v, h1, h2⟩ := he.2 i d h
        exact ⟨v, h1, hp v A H .refl hr h2⟩⟩⟩
theorem se_c {v : V} {d : D} (h : PE X e (tC v)) (r : ∀ A H, Rep X.K g A H v d) : SE X g γ e (eC d) :=
  ⟨fun W tk => ⟨_, h, fun σ env A H mem Q hg he hr hp => hp v A H .refl hr (r A H)⟩⟩
theorem se_int {i : Int} {k p} : SE X g γ (.Constant (.int i) k p) (eC (.int i)) := se_c pe_int fun _ _ => .int i
theorem se_str {i : Str} {k p} : SE X g γ (.Constant (.str i) k p) (eC (.str i)) := se_c pe_str fun _ _ => .str i
theorem se_bl {i : Bool} {k p} : SE X g γ (.Constant (.bool i) k p) (eC (.bl i)) := se_c pe_bl fun _ _ => .bl i
theorem se_non {k p} : SE X g γ (.Constant .none k p) (eC .non) := se_c pe_non fun _ _ => .non
/-- a module's constant -/
theorem se_glob {x : Str} {v : V} {u : Value} {d : D} (hm : X.mg x = some u) (r : RelV v u) (hrep : ∀ A H, Rep X.K g A H v d) (hg : L2.Gl X x := by rfl) (hd : (x == ("__debug__" : Str)) = false := by decide) : SE X g γ (.Name x pos) (eC d) := se_c (pe_glob hg hm r hd) hrep
theorem se_bin {op : Operator} {F : F2} (ho : OpA X g (binaryOp op) F) (ha : SE X g γ a ia) (hb : SE X g γ b ib) : SE X g γ (.BinOp a op b pos) (eOp F ia ib) :=
  ⟨fun W tk => by
    obtain ⟨r, h1, h2⟩ := ho.out
    obtain ⟨ta, pa, qa⟩ := ha.out W tk
    obtain ⟨tb, pb, qb⟩ := hb.out W tk
    refine ⟨_, pe_op h1 pa pb, fun σ env A H mem Q hg he hr hp => ?_⟩
    refine qa σ env A H mem _ hg he hr (hp.bnd fun v A1 H1 d m s1 r1 rv p1 => ?_)
    refine qb σ env A1 H1 m _ (hg.pre s1.pre) (he.stab s1) r1 (p1.bnd fun v2 A2 H2 d2 m2 s2 r2 rv2 p2 => ?_)
    exact h2 A2 H2 m2 v v2 d d2 _ _ r2 (rv.stab s2) rv2 p2⟩
theorem se_cmp {op : CmpOp} {F : F2} (ho : OpA X g (compareOp op) F) (ha : SE X g γ a ia) (hb : SE X g γ b ib) (hm : behindInMarks op b = false := by first | rfl | exact nomark _) : SE X g γ (.Compare a [op] [b] pos) (eOp F ia ib) :=
  ⟨fun W tk => by
    obtain ⟨r, h1, h2⟩ := ho.out
    obtain ⟨ta, pa, qa⟩ := ha.out W tk
    obtain ⟨tb, pb, qb⟩ := hb.out W tk
    refine ⟨_, pe_cmpR h1 pa pb hm, fun σ env A H mem Q hg he hr hp => ?_⟩
    refine qa σ env A H mem _ hg he hr (hp.bnd fun v A1 H1 d m s1 r1 rv p1 => ?_)
    refine qb σ env A1 H1 m _ (hg.pre s1.pre) (he.stab s1) r1 (p1.bnd fun v2 A2 H2 d2 m2 s2 r2 rv2 p2 => ?_)
    exact h2 A2 H2 m2 v v2 d d2 _ _ r2 (rv.stab s2) rv2 p2⟩
theorem se_un {op : UnaryOp} {F : F1} (ho : UnA X g (unaryOp op) F) (ha : SE X g γ a ia) : SE X g γ (.UnaryOp op a pos) (eUn F ia) :=
  ⟨fun W tk => by
    obtain ⟨r, h1, h2⟩ := ho.out
    obtain ⟨ta, pa, qa⟩ := ha.out W tk
    refine ⟨_, pe_un h1 pa, fun σ env A H mem Q hg he hr hp => ?_⟩
    refine qa σ env A H mem _ hg he hr (hp.bnd fun v A1 H1 d m s1 r1 rv p1 => ?_)
    exact h2 A1 H1 m v d _ _ r1 rv p1⟩
theorem se_ix {F : F2} (ho : IxA X g F) (ha : SE X g γ a ia) (hb : SE X g γ b ib) (hs : PlainIx b := by exact fun _ _ => rfl) : SE X g γ (.Subscript a b pos) (eOp F ia ib) :=
  ⟨fun W tk => by
    obtain ⟨r, h1, h2⟩ := ho.out
    obtain ⟨ta, pa, qa⟩ := ha.out W tk
    obtain ⟨tb, pb, qb⟩ := hb.out W tk
    refine ⟨_, pe_ix h1 pa pb hs, fun σ env A H mem Q hg he hr hp => ?_⟩
    refine qa σ env A H mem _ hg he hr (hp.bnd fun v A1 H1 d m s1 r1 rv p1 => ?_)
    refine qb σ env A1 H1 m _ (hg.pre s1.pre) (he.stab s1) r1 (p1.bnd fun v2 A2 H2 d2 m2 s2 r2 rv2 p2 => ?_)
    exact h2 A2 H2 m2 v v2 d d2 _ _ r2 (rv.stab s2) rv2 p2⟩
theorem sa_nil : SA X g γ [] aNil := ⟨fun W tk => ⟨_, pa_nil, fun σ env A H mem Q hg he hr hp => hp [] A H .refl hr .nil⟩⟩
theorem sa_cons (ha : SE X g γ e ia) (hr : SA X g γ es aa) (hs : starEach (e :: es) X.env = (false, eval e X.env) :: starEach es X.env := by rfl) : SA X g γ (e :: es) (aCons ia aa) :=
  ⟨fun W tk => by
    obtain ⟨ta, pa, qa⟩ := ha.out W tk
    obtain ⟨tb, pb, qb⟩ := hr.out W tk
    refine ⟨_, pa_cons pa pb hs, fun σ env A H mem Q hg he hr hp => ?_⟩
    refine qa σ env A H mem _ hg he hr (hp.bnd fun v A1 H1 d m s1 r1 rv p1 => ?_)
    refine qb σ env A1 H1 m _ (hg.pre s1.pre) (he.stab s1) r1 (p1.bnd fun v2 A2 H2 d2 m2 s2 r2 rv2 p2 => ?_)
    exact p2 _ A2 H2 .refl r2 (.cons (rv.stab s2) rv2)⟩
theorem se_tup {x1} (h : SA X g γ es aa) : SE X g γ (.Tuple es x1 pos) (eCall mkTup aa) :=
  ⟨fun W tk => by
    obtain ⟨t, p, q⟩ := h.out W tk
    refine ⟨_, pe_tupF p, fun σ env A H mem Q hg he hr hp => ?_⟩
    refine q σ env A H mem _ hg he hr (hp.bnd fun vs A1 H1 ds m s1 r1 rv p1 => ?_)
    unfold mkTup at p1
    by_cases hl : ds.length ≤ sizeLine
    · rw [if_pos hl] at p1
      refine ⟨by rw [rv.length]; exact hl, fun p o ho hp => ?_⟩
      obtain ⟨s2, r2⟩ := r1.new (o := .frz o (.tup vs)) hp
      exact p1 _ A1 _ s2 r2 (.tup (.inl ⟨o, upd_same, ho⟩) (rv.stab s2))
    · rw [if_neg hl] at p1; exact p1.elim⟩
theorem se_lst (h : SA X g γ es aa) : SE X g γ (.List es pos) (eCall mkLst aa) :=
  ⟨fun W tk => by
    obtain ⟨t, p, q⟩ := h.out W tk
    refine ⟨_, pe_lst p, fun σ env A H mem Q hg he hr hp => ?_⟩
    refine q σ env A H mem _ hg he hr (hp.bnd fun vs A1 H1 ds m s1 r1 rv p1 => ?_)
    unfold mkLst at p1
    by_cases hl : ds.length ≤ sizeLine
    · rw [if_pos hl] at p1
      refine ⟨by rw [rv.length]; exact hl, fun p hp => ?_⟩
      obtain ⟨s2, r2, e2⟩ := r1.alloc (o := .lst vs) (c := .lst ds) hp fun s => ⟨vs, upd_same, rv.stab s⟩
      exact p1 _ _ _ s2 r2 (.ref e2)
    · rw [if_neg hl] at p1; exact p1.elim⟩
theorem se_dnew : SE X g γ (.Dict [] [] pos) (eCall (fun _ => mkDic []) aNil) :=
  ⟨fun W tk => ⟨_, pe_dnewK, fun σ env A H mem Q hg he hr hp p hn => by
    obtain ⟨s2, r2, e2⟩ := hr.alloc (o := .dK []) (c := .dic []) hn fun s => ⟨[], upd_same, .nil⟩
    exact hp _ _ _ s2 r2 (.ref e2)⟩⟩
/-! tests -/
theorem asB_in {A : List Addr} {H : Hp} {v : V} {d : D} {m : Mem} {Q : Bool → Hp → Prop} {W} (rv : Rep X.K g A H v d) (R1 : Rel X.K g A H m) (p : Post X.K g (fun _ _ => Eq) A H (asB d m) Q W) : ∃ k, v = .bl k ∧ Q k H := by
  unfold asB at p
  cases rv with
  | bl b => exact ⟨b, rfl, p b A H .refl R1 rfl⟩
  | _ => exact p.elim
theorem st_val (h : SE X g γ e ia) (he : ∀ whole, isTrue e X.env whole = (do let v ← whole; standAt e.pos; holding [v] (truthy v)) := by intro _; rfl) : ST X g γ e (tVal ia) :=
  ⟨fun W tk => by
    obtain ⟨t, p, q⟩ := h.out W tk
    refine ⟨_, pt_val p he, fun σ env A H mem Q hg he hr hp => ?_⟩
    exact q σ env A H mem _ hg he hr (hp.bnd fun v A1 H1 d m s1 r1 rv p1 => asB_in rv r1 p1)⟩
/-- a comparison as a test -/
theorem st_cmp {op : CmpOp} {F : F2} (ho : OpA X g (compareOp op) F) (ha : SE X g γ a ia) (hb : SE X g γ b ib) (hm : behindInMarks op b = false := by first | rfl | exact nomark _) : ST X g γ (.Compare a [op] [b] pos) (tVal (eOp F ia ib)) :=
  ⟨fun W tk => by
    obtain ⟨r, h1, h2⟩ := ho.out
    obtain ⟨ta, pa, qa⟩ := ha.out W tk
    obtain ⟨tb, pb, qb⟩ := hb.out W tk
    refine ⟨_, pt_cmpR h1 pa pb hm, fun σ env A H mem Q hg he hr hp => ?_⟩
    have hp' : Post X.K g (fun _ _ => Eq) A H ((ia env mem).bind fun x m => ((ib env m).bind fun y m => F x y m).bind asB) Q (fun c d H' => W c d σ H') := by
      have e : tVal (eOp F ia ib) env mem = (ia env mem).bind fun x m => ((ib env m).bind fun y m => F x y m).bind asB := by
        unfold tVal eOp
        cases ia env mem <;> rfl
      rw [← e]; exact hp
    refine qa σ env A H mem _ hg he hr (hp'.bnd fun v A1 H1 d m s1 r1 rv p1 => ?_)
    have p1' : Post X.K g (fun _ _ => Eq) A1 H1 ((ib env m).bind fun y m => (F d y m).bind asB) Q (fun c d H' => W c d σ H') := by
      have e : (((ib env m).bind fun y m => F d y m).bind asB) = (ib env m).bind fun y m => (F d y m).bind asB := by cases ib env m <;> rfl
      rw [← e]; exact p1
    refine qb σ env A1 H1 m _ (hg.pre s1.pre) (he.stab s1) r1 (p1'.bnd fun v2 A2 H2 d2 m2 s2 r2 rv2 p2 => ?_)
    exact h2 A2 H2 m2 v v2 d d2 _ _ r2 (rv.stab s2) rv2 (p2.bnd fun v3 A3 H3 d3 m3 s3 r3 rv3 p3 => asB_in rv3 r3 p3)⟩
theorem st_not {t : AT} (h : ST X g γ a t) : ST X g γ (.UnaryOp .Not a pos) (tNt t) :=
  ⟨fun W tk => by
    obtain ⟨t, p, q⟩ := h.out W tk
    refine ⟨_, pt_not p, fun σ env A H mem Q hg he hr hp => ?_⟩
    refine q σ env A H mem _ hg he hr (hp.bnd fun v A1 H1 d m s1 r1 rv p1 => ?_)
    subst rv
    exact p1 _ A1 H1 .refl r1 rfl⟩
/-- and, or as tests -/
structure SW (X : Cx) (g : Glb) (γ : Gam) (e : Expr) (a : AT) : Prop where
  out : ∀ W : WX, Takes X W → ∃ t : TT, PW X e t ∧ ∀ σ env A H mem Q, γ.Ok A → EnvR X.K g A H σ env → Rel X.K g A H mem → Post X.K g (fun _ _ => Eq) A H (a env mem) Q (fun c d H' => W c d σ H') → t σ H Q
theorem sw_st {t : AT} (h : SW X g γ e t) : ST X g γ e t := ⟨fun W tk => by obtain ⟨t, p, q⟩ := h.out W tk; exact ⟨t, p.pt, q⟩⟩
theorem sw_and1 {t : AT} (h : ST X g γ a t) : SW X g γ (.BoolOp .And [a] pos) t := ⟨fun W tk => by obtain ⟨t, p, q⟩ := h.out W tk; exact ⟨t, pw_and1 p, q⟩⟩
theorem sw_or1 {t : AT} (h : ST X g γ a t) : SW X g γ (.BoolOp .Or [a] pos) t := ⟨fun W tk => by obtain ⟨t, p, q⟩ := h.out W tk; exact ⟨t, pw_or1 p, q⟩⟩
theorem sw_and {t u : AT} (ha : ST X g γ a t) (hb : SW X g γ (.BoolOp .And (b :: es) pos) u) : SW X g γ (.BoolOp .And (a :: b :: es) pos) (tAn t u) :=
  ⟨fun W tk => by
    obtain ⟨ta, pa, qa⟩ := ha.out W tk
    obtain ⟨tb, pb, qb⟩ := hb.out W tk
    refine ⟨_, pw_and pa pb, fun σ env A H mem Q hg he hr hp => ?_⟩
    refine qa σ env A H mem _ hg he hr (hp.bnd fun v A1 H1 d m s1 r1 rv p1 => ?_)
    subst rv
    cases v with
    | true => exact qb σ env A1 H1 m _ (hg.pre s1.pre) (he.stab s1) r1 p1
    | false => exact p1 _ A1 H1 .refl r1 rfl⟩
theorem sw_or {t u : AT} (ha : ST X g γ a t) (hb : SW X g γ (.BoolOp .Or (b :: es) pos) u) : SW X g γ (.BoolOp .Or (a :: b :: es) pos) (tOrr t u) :=
  ⟨fun W tk => by
    obtain ⟨ta, pa, qa⟩ := ha.out W tk
    obtain ⟨tb, pb, qb⟩ := hb.out W tk
    refine ⟨_, pw_or pa pb, fun σ env A H mem Q hg he hr hp => ?_⟩
    refine qa σ env A H mem _ hg he hr (hp.bnd fun v A1 H1 d m s1 r1 rv p1 => ?_)
    subst rv
    cases v with
    | false => exact qb σ env A1 H1 m _ (hg.pre s1.pre) (he.stab s1) r1 p1
    | true => exact p1 _ A1 H1 .refl r1 rfl⟩
theorem se_if {c : Expr} {t : AT} (hc : ST X g γ c t) (ha : SE X g γ a ia) (hb : SE X g γ b ib) : SE X g γ (.IfExp c a b pos) (eIf t ia ib) :=
  ⟨fun W tk => by
    obtain ⟨tc, pc, qc⟩ := hc.out W tk
    obtain ⟨ta, pa, qa⟩ := ha.out W tk
    obtain ⟨tb, pb, qb⟩ := hb.out W tk
    refine ⟨_, pe_ifExp pc pa pb, fun σ env A H mem Q hg he hr hp => ?_⟩
    refine qc σ env A H mem _ hg he hr (hp.bnd fun v A1 H1 d m s1 r1 rv p1 => ?_)
    subst rv
    cases v with
    | true => exact qa σ env A1 H1 m _ (hg.pre s1.pre) (he.stab s1) r1 p1
    | false => exact qb σ env A1 H1 m _ (hg.pre s1.pre) (he.stab s1) r1 p1⟩
/-- and, or, not as values -/
theorem se_one {op} (h : SE X g γ a ia) : SE X g γ (.BoolOp op [a] pos) ia := ⟨fun W tk => by obtain ⟨t, p, q⟩ := h.out W tk; exact ⟨t, pe_one p, q⟩⟩
theorem se_and (ha : SE X g γ a ia) (hb : SE X g γ (.BoolOp .And (b :: es) pos) ib) : SE X g γ (.BoolOp .And (a :: b :: es) pos) (eAnd ia ib) :=
  ⟨fun W tk => by
    obtain ⟨ta, pa, qa⟩ := ha.out W tk
    obtain ⟨tb, pb, qb⟩ := hb.out W tk
    refine ⟨_, pe_and pa pb, fun σ env A H mem Q hg he hr hp => ?_⟩
    have hp' : Post X.K g (Rep X.K g) A H ((ia env mem).bind fun d m => (asB d m).bind fun k m => if k = true then ib env m else .ok (.bl false) m) Q (fun c d H' => W c d σ H') := by
      have e : eAnd ia ib env mem = ((ia env mem).bind fun d m => (asB d m).bind fun k m => if k = true then ib env m else .ok (.bl false) m) := by unfold eAnd; cases ia env mem <;> rfl
      rw [← e]; exact hp
    refine qa σ env A H mem _ hg he hr (hp'.bnd fun v A1 H1 d m s1 r1 rv p1 => ?_)
    unfold asB at p1
    cases rv with
    | bl k =>
      refine ⟨k, rfl, ?_⟩
      cases k with
      | true => exact qb σ env A1 H1 m _ (hg.pre s1.pre) (he.stab s1) r1 p1
      | false => exact p1 _ A1 H1 .refl r1 (.bl _)
    | _ => exact p1.elim⟩
theorem se_or (ha : SE X g γ a ia) (hb : SE X g γ (.BoolOp .Or (b :: es) pos) ib) : SE X g γ (.BoolOp .Or (a :: b :: es) pos) (eOr ia ib) :=
  ⟨fun W tk => by
    obtain ⟨ta, pa, qa⟩ := ha.out W tk
    obtain ⟨tb, pb, qb⟩ := hb.out W tk
    refine ⟨_, pe_or pa pb, fun σ env A H mem Q hg he hr hp => ?_⟩
    have hp' : Post X.K g (Rep X.K g) A H ((ia env mem).bind fun d m => (asB d m).bind fun k m => if k = true then .ok (.bl true) m else ib env m) Q (fun c d H' => W c d σ H') := by
      have e : eOr ia ib env mem = ((ia env mem).bind fun d m => (asB d m).bind fun k m => if k = true then .ok (.bl true) m else ib env m) := by unfold eOr; cases ia env mem <;> rfl
      rw [← e]; exact hp
    refine qa σ env A H mem _ hg he hr (hp'.bnd fun v A1 H1 d m s1 r1 rv p1 => ?_)
    unfold asB at p1
    cases rv with
    | bl k =>
      refine ⟨k, rfl, ?_⟩
      cases k with
      | false => exact qb σ env A1 H1 m _ (hg.pre s1.pre) (he.stab s1) r1 p1
      | true => exact p1 _ A1 H1 .refl r1 (.bl _)
    | _ => exact p1.elim⟩
theorem se_not (ha : SE X g γ a ia) : SE X g γ (.UnaryOp .Not a pos) (eNot ia) :=
  ⟨fun W tk => by
    obtain ⟨ta, pa, qa⟩ := ha.out W tk
    refine ⟨_, pe_not pa, fun σ env A H mem Q hg he hr hp => ?_⟩
    have hp' : Post X.K g (Rep X.K g) A H ((ia env mem).bind fun d m => (asB d m).bind fun k m => .ok (.bl (!k)) m) Q (fun c d H' => W c d σ H') := by
      have e : eNot ia env mem = ((ia env mem).bind fun d m => (asB d m).bind fun k m => .ok (.bl (!k)) m) := by unfold eNot; cases ia env mem <;> rfl
      rw [← e]; exact hp
    refine qa σ env A H mem _ hg he hr (hp'.bnd fun v A1 H1 d m s1 r1 rv p1 => ?_)
    unfold asB at p1
    cases rv with
    | bl k => exact ⟨k, rfl, p1 _ A1 H1 .refl r1 (.bl _)⟩
    | _ => exact p1.elim⟩
end
end Ab
set_option Elab.async false
set_option linter.all false
set_option maxRecDepth 100000
namespace Ab
open PySem L2

/-! ### operators -/
def dAdd : F2 := fun x y m => match x, y with
  | .int i, .int j => .ok (.int (i + j)) m
  | .str s, .str t => if s.length + t.length ≤ sizeLine then .ok (.str (s ++ t)) m else .no
  | .tup a, .tup b => if a.length + b.length ≤ sizeLine then .ok (.tup (a ++ b)) m else .no
  | .ref p, .ref q => match m[p]?, m[q]? with
    | some (.lst a), some (.lst b) => if a.length + b.length ≤ sizeLine then .ok (.ref m.length) (m ++ [.lst (a ++ b)]) else .no
    | _, _ => .no
  | _, _ => .no
def dSub : F2 := fun x y m => match x, y with
  | .int i, .int j => .ok (.int (i - j)) m
  | _, _ => .no
def dMul : F2 := fun x y m => match x, y with
  | .int i, .int j => if (-(2 ^ 64) < i ∧ i < 2 ^ 64) ∨ (-(2 ^ 64) < j ∧ j < 2 ^ 64) then .ok (.int (i * j)) m else .no
  | .ref p, .int k => match m[p]? with
    | some (.lst a) => if -(2 ^ 63) ≤ k ∧ k < 2 ^ 63 ∧ a.length * k.toNat ≤ sizeLine then .ok (.ref m.length) (m ++ [.lst (List.replicate k.toNat a).flatten]) else .no
    | _ => .no
  | _, _ => .no
def dFdiv : F2 := fun x y m => match x, y with
  | .int i, .int j => if j ≠ 0 ∧ j.natAbs < 1073741824 then .ok (.int (i.fdiv j)) m else .no
  | _, _ => .no
def dMod : F2 := fun x y m => match x, y with
  | .int i, .int j => if j ≠ 0 then .ok (.int (i.fmod j)) m else .no
  | _, _ => .no
def dPow : F2 := fun x y m => match x, y with
  | .int i, .int j => if 0 ≤ j ∧ j ≤ 1000000 ∧ i.natAbs < 2 ^ 64 then .ok (.int (i ^ j.toNat)) m else .no
  | _, _ => .no
def dXor : F2 := fun x y m => match x, y with
  | .int i, .int j => .ok (.int (Builtin.bitXor i j)) m
  | _, _ => .no
def dCmp (p : Int → Int → Bool) : F2 := fun x y m => match x, y with
  | .int i, .int j => .ok (.bl (p i j)) m
  | _, _ => .no
abbrev dLt : F2 := dCmp fun i j => decide (i < j)
abbrev dLe : F2 := dCmp fun i j => decide (i ≤ j)
abbrev dGt : F2 := dCmp fun i j => decide (j < i)
abbrev dGe : F2 := dCmp fun i j => decide (j ≤ i)
def dIsN : F2 := fun x y m => match y with
  | .non => .ok (.bl (match x with | .non => true | _ => false)) m
  | _ => .no
def dNotN : F2 := fun x y m => match y with
  | .non => .ok (.bl (match x with | .non => false | _ => true)) m
  | _ => .no
def dNeg : F1 := fun x m => match x with
  | .int i => .ok (.int (-i)) m
  | _ => .no

theorem opR_or {X : Cx} {f : Value → Value → Sem Value} {r r' : R2} (h : OpR X f r) (h' : OpR X f r') : OpR X f (fun x y H Q => r x y H Q ∨ r' x y H Q) := by
  intro pins s σ H x y v u Q I rx ry q
  rcases q with q | q
  · exact h pins s σ H x y v u Q I rx ry q
  · exact h' pins s σ H x y v u Q I rx ry q
section
variable {X : Cx} {g : Glb}
theorem cell_at {A : List Addr} {H : Hp} {mem : Mem} {n : Nat} {a : Addr} {c : Cell} (R : Rel X.K g A H mem) (h1 : A[n]? = some a) (h2 : mem[n]? = some c) : CellR X.K g A H a c := R.cell n a c h1 h2
theorem opA_add : OpA X g (binaryOp .Add) dAdd := ⟨_, opR_or op_add (opR_or op_add_str (opR_or op_catF op_cat)), fun A H mem x y dx dy Q W R rx ry p => by
  unfold dAdd at p
  cases rx <;> cases ry <;> try exact p.elim
  · exact .inl ⟨_, _, rfl, rfl, p _ A H .refl R (.int _)⟩
  · rename_i s t
    by_cases hl : s.length + t.length ≤ sizeLine
    · simp only [if_pos hl] at p
      exact .inr (.inl ⟨_, _, rfl, rfl, hl, p _ A H .refl R (.str _)⟩)
    · simp only [if_neg hl] at p; exact p.elim
  · rename_i n a ha k b hb
    dsimp only at p
    split at p
    · rename_i xs ys h1 h2
      by_cases hl : xs.length + ys.length ≤ sizeLine
      · rw [if_pos hl] at p
        obtain ⟨vs, e1, q1⟩ := cell_at R ha h1
        obtain ⟨ws, e2, q2⟩ := cell_at R hb h2
        refine .inr (.inr (.inr ⟨a, b, vs, ws, rfl, rfl, e1, e2, by rw [q1.length, q2.length]; exact hl, fun p' hp => ?_⟩))
        obtain ⟨s2, r2, e2⟩ := R.alloc (o := .lst (vs ++ ws)) (c := .lst (xs ++ ys)) hp fun s => ⟨_, upd_same, (q1.stab s).append (q2.stab s)⟩
        exact p _ _ _ s2 r2 (.ref e2)
      · rw [if_neg hl] at p; exact p.elim
    · exact p.elim
  · rename_i a vs xs ha q1 b ws ys hb q2
    by_cases hl : xs.length + ys.length ≤ sizeLine
    · simp only [if_pos hl] at p
      refine .inr (.inr (.inl ⟨a, b, vs, ws, rfl, rfl, ha.t, hb.t, by rw [q1.length, q2.length]; exact hl, fun h => ?_, fun h h' => ?_, fun _ _ p' o ho hp => ?_⟩))
      · subst h
        cases q1
        exact p _ A H .refl R (.tup hb q2)
      · subst h'
        cases q2
        rw [List.append_nil] at p
        exact p _ A H .refl R (.tup ha q1)
      · obtain ⟨s2, r2⟩ := R.new (o := .frz o (.tup (vs ++ ws))) hp
        exact p _ A _ s2 r2 (.tup (.inl ⟨o, upd_same, ho⟩) ((q1.append q2).stab s2))
    · simp only [if_neg hl] at p; exact p.elim⟩
theorem opA_sub : OpA X g (binaryOp .Sub) dSub := ⟨_, op_sub, fun A H mem x y dx dy Q W R rx ry p => by
  unfold dSub at p
  cases rx <;> cases ry <;> try exact p.elim
  exact ⟨_, _, rfl, rfl, p _ A H .refl R (.int _)⟩⟩
theorem opA_mul : OpA X g (binaryOp .Mult) dMul := ⟨_, opR_or op_mul op_rep, fun A H mem x y dx dy Q W R rx ry p => by
  unfold dMul at p
  cases rx <;> cases ry <;> try exact p.elim
  · rename_i i j
    dsimp only at p
    split at p
    · exact .inl ⟨_, _, rfl, rfl, by assumption, p _ A H .refl R (.int _)⟩
    · exact p.elim
  · rename_i n a ha k
    dsimp only at p
    split at p
    · rename_i xs h1
      split at p
      · rename_i hl
        obtain ⟨vs, e1, q1⟩ := cell_at R ha h1
        refine .inr ⟨a, k, vs, rfl, rfl, e1, hl.1, hl.2.1, by rw [q1.length]; exact hl.2.2, fun p' hp => ?_⟩
        have key : ∀ n, RepL X.K g A H (List.replicate n vs).flatten (List.replicate n xs).flatten := by
          intro n
          induction n with
          | zero => exact .nil
          | succ n ih => rw [List.replicate_succ, List.replicate_succ, List.flatten_cons, List.flatten_cons]; exact q1.append ih
        obtain ⟨s2, r2, e2⟩ := R.alloc (o := .lst (List.replicate k.toNat vs).flatten) (c := .lst (List.replicate k.toNat xs).flatten) hp fun s => ⟨_, upd_same, (key _).stab s⟩
        exact p _ _ _ s2 r2 (.ref e2)
      · exact p.elim
    · exact p.elim⟩
theorem opA_fdiv : OpA X g (binaryOp .FloorDiv) dFdiv := ⟨_, op_fdivN, fun A H mem x y dx dy Q W R rx ry p => by
  unfold dFdiv at p
  cases rx <;> cases ry <;> try exact p.elim
  dsimp only at p
  split at p
  · exact ⟨_, _, rfl, rfl, by assumption, p _ A H .refl R (.int _)⟩
  · exact p.elim⟩
theorem opA_mod : OpA X g (binaryOp .Mod) dMod := ⟨_, op_modN, fun A H mem x y dx dy Q W R rx ry p => by
  unfold dMod at p
  cases rx <;> cases ry <;> try exact p.elim
  dsimp only at p
  split at p
  · exact ⟨_, _, rfl, rfl, by assumption, p _ A H .refl R (.int _)⟩
  · exact p.elim⟩
theorem opA_pow : OpA X g (binaryOp .Pow) dPow := ⟨_, op_pow, fun A H mem x y dx dy Q W R rx ry p => by
  unfold dPow at p
  cases rx <;> cases ry <;> try exact p.elim
  dsimp only at p
  split at p
  · exact ⟨_, _, rfl, rfl, by assumption, p _ A H .refl R (.int _)⟩
  · exact p.elim⟩
theorem opA_xor : OpA X g (binaryOp .BitXor) dXor := ⟨_, op_xor, fun A H mem x y dx dy Q W R rx ry p => by
  unfold dXor at p
  cases rx <;> cases ry <;> try exact p.elim
  exact ⟨_, _, rfl, rfl, p _ A H .refl R (.int _)⟩⟩
theorem opA_cmp {op : CmpOp} {p : Int → Int → Bool} (h : OpR X (compareOp op) (rI0 fun i j => .bl (p i j))) : OpA X g (compareOp op) (dCmp p) := ⟨_, h, fun A H mem x y dx dy Q W R rx ry p => by
  unfold dCmp at p
  cases rx <;> cases ry <;> try exact p.elim
  exact ⟨_, _, rfl, rfl, p _ A H .refl R (.bl _)⟩⟩
theorem opA_lt : OpA X g (compareOp .Lt) dLt := opA_cmp op_lt
theorem opA_le : OpA X g (compareOp .LtE) dLe := opA_cmp op_le
theorem opA_gt : OpA X g (compareOp .Gt) dGt := opA_cmp op_gt
theorem opA_ge : OpA X g (compareOp .GtE) dGe := opA_cmp op_ge
theorem opA_isN : OpA X g (compareOp .Is) dIsN := ⟨_, op_isN, fun A H mem x y dx dy Q W R rx ry p => by
  unfold dIsN at p
  cases ry <;> try exact p.elim
  refine ⟨rfl, ?_⟩
  cases rx <;> exact p _ A H .refl R (by first | exact Rep.bl _ | (simp; exact Rep.bl _))⟩
theorem opA_notN : OpA X g (compareOp .IsNot) dNotN := ⟨_, op_notN, fun A H mem x y dx dy Q W R rx ry p => by
  unfold dNotN at p
  cases ry <;> try exact p.elim
  refine ⟨rfl, ?_⟩
  cases rx <;> exact p _ A H .refl R (by first | exact Rep.bl _ | (simp; exact Rep.bl _))⟩
theorem unA_neg : UnA X g (unaryOp .USub) dNeg := ⟨_, un_neg, fun A H mem x dx Q W R rx p => by
  unfold dNeg at p
  cases rx <;> try exact p.elim
  exact ⟨_, rfl, p _ A H .refl R (.int _)⟩⟩

/-! ### data at any depth -/
def toP (m : Mem) : Nat → D → Option PyData
  | _, .non => some .none
  | _, .bl b => some (.bool b)
  | _, .int i => some (.int i)
  | _, .str x => some (.str x)
  | f + 1, .tup ds => (ds.mapM (toP m f)).map .tuple
  | f + 1, .ref n => match m[n]? with
    | some (.lst ds) => (ds.mapM (toP m f)).map .list
    | some (.rol ds) => (ds.mapM (toP m f)).map .list
    | _ => none
  | _, _ => none
theorem dpAll_of {A : List Addr} {H : Hp} {f : D → Option PyData} (hf : ∀ v d p, Rep X.K g A H v d → f d = some p → Dp X.K H v p) : ∀ {vs : List V} {ds : List D} {ps : List PyData}, RepL X.K g A H vs ds → ds.mapM f = some ps → DpAll X.K H vs ps
  | _, _, ps, .nil, e => by
    rw [List.mapM_nil] at e
    cases e; exact .nil
  | _, _, ps, .cons h l, e => by
    rename_i v vs d ds
    rw [List.mapM_cons] at e
    cases e1 : f d with
    | none => rw [e1] at e; cases e
    | some q =>
      rw [e1] at e
      cases e2 : ds.mapM f with
      | none => simp [e2] at e
      | some qs =>
        simp [e2] at e
        subst e
        exact .cons (hf _ _ _ h e1) (dpAll_of hf l e2)
theorem toP_dp {A : List Addr} {H : Hp} {mem : Mem} (R : Rel X.K g A H mem) : ∀ (f : Nat) (v : V) (d : D) (p : PyData), Rep X.K g A H v d → toP mem f d = some p → Dp X.K H v p := by
  intro f
  induction f with
  | zero =>
    intro v d p r e
    cases r <;> simp [toP] at e <;> subst e <;> constructor
  | succ f ih =>
    intro v d p r e
    cases r with
    | non => simp [toP] at e; subst e; constructor
    | bl b => simp [toP] at e; subst e; constructor
    | int b => simp [toP] at e; subst e; constructor
    | str b => simp [toP] at e; subst e; constructor
    | fn b => simp [toP] at e
    | tup h l =>
      simp only [toP, Option.map_eq_some_iff] at e
      obtain ⟨ps, e1, rfl⟩ := e
      exact .tup h.t (dpAll_of ih l e1)
    | @ref n a ha =>
      simp only [toP] at e
      split at e
      · rename_i ds hm
        simp only [Option.map_eq_some_iff] at e
        obtain ⟨ps, e1, rfl⟩ := e
        obtain ⟨vs, e2, q⟩ := R.cell _ _ _ ha hm
        exact .lst (.inl (.inl e2)) (dpAll_of ih q e1)
      · rename_i ds hm
        simp only [Option.map_eq_some_iff] at e
        obtain ⟨ps, e1, rfl⟩ := e
        obtain ⟨vs, e2, q⟩ := R.cell _ _ _ ha hm
        exact .lst e2.l (dpAll_of ih q e1)
      · cases e
abbrev DEEP : Nat := 70
def dEq : F2 := fun x y m => match toP m DEEP x, toP m DEEP y with
  | some p, some q => if SeqAt.shaped p = true ∧ SeqAt.shaped q = true then .ok (.bl (PyData.eqv p q)) m else .no
  | _, _ => .no
def dNe : F2 := fun x y m => match toP m DEEP x, toP m DEEP y with
  | some p, some q => if SeqAt.shaped p = true ∧ SeqAt.shaped q = true then .ok (.bl (!PyData.eqv p q)) m else .no
  | _, _ => .no
theorem opA_eq (hu : X.A.units + 64 < cLine) : OpA X g (compareOp .Eq) dEq := ⟨_, op_eqD hu, fun A H mem x y dx dy Q W R rx ry p => by
  unfold dEq at p
  split at p
  · rename_i a b ea eb
    split at p
    · rename_i hs
      exact ⟨a, b, toP_dp R _ _ _ _ rx ea, toP_dp R _ _ _ _ ry eb, hs.1, hs.2, p _ A H .refl R (.bl _)⟩
    · exact p.elim
  · exact p.elim⟩
theorem opA_ne (hu : X.A.units + 64 < cLine) : OpA X g (compareOp .NotEq) dNe := ⟨_, op_neD hu, fun A H mem x y dx dy Q W R rx ry p => by
  unfold dNe at p
  split at p
  · rename_i a b ea eb
    split at p
    · rename_i hs
      exact ⟨a, b, toP_dp R _ _ _ _ rx ea, toP_dp R _ _ _ _ ry eb, hs.1, hs.2, p _ A H .refl R (.bl _)⟩
    · exact p.elim
  · exact p.elim⟩
end
end Ab
set_option Elab.async false
set_option linter.all false
set_option maxRecDepth 100000
namespace Ab
open PySem L2

/-! ### dicts -/
def keyD : D → Option Key
  | .int i => some (.inl i)
  | .str x => some (.inr x)
  | _ => none
def valD (kvs : List (Key × D)) (k : Key) : Option D := (kvs.find? fun kv => decide (kv.1 = k)).map (·.2)
def putD (kvs : List (Key × D)) (k : Key) (v : D) : List (Key × D) :=
  if (kvs.any fun kv => decide (kv.1 = k)) = true then kvs.map fun kv => if kv.1 = k then (kv.1, v) else kv else kvs ++ [(k, v)]
section
variable {X : Cx} {g : Glb}
theorem keyD_kV {K : PySem.W.Frag} {A : List Addr} {H : Hp} {v : V} {d : D} {k : Key} (r : Rep K g A H v d) (e : keyD d = some k) : v = kV k := by
  cases r <;> simp [keyD] at e <;> subst e <;> rfl
theorem RepP.val {K : PySem.W.Frag} {A : List Addr} {H : Hp} (k : Key) : ∀ {vs : List (Key × V)} {ds : List (Key × D)}, RepP K g A H vs ds → (valD ds k = none ∧ valV vs k = none) ∨ ∃ v d, valD ds k = some d ∧ valV vs k = some v ∧ Rep K g A H v d
  | _, _, .nil => .inl ⟨rfl, rfl⟩
  | _, _, .cons h l => by
    rename_i k' v d vs ds
    by_cases e : k' = k
    · exact .inr ⟨v, d, by simp [valD, List.find?_cons, e], by simp [valV, List.find?_cons, e], h⟩
    · have e1 : valD ((k', d) :: ds) k = valD ds k := by simp [valD, List.find?_cons, e]
      have e2 : valV ((k', v) :: vs) k = valV vs k := by simp [valV, List.find?_cons, e]
      rw [e1, e2]
      exact RepP.val k l
theorem RepP.any {K : PySem.W.Frag} {A : List Addr} {H : Hp} (k : Key) : ∀ {vs : List (Key × V)} {ds : List (Key × D)}, RepP K g A H vs ds → (ds.any fun kv => decide (kv.1 = k)) = vs.any fun kv => decide (kv.1 = k)
  | _, _, .nil => rfl
  | _, _, .cons h l => by rw [List.any_cons, List.any_cons, RepP.any k l]
theorem RepP.repl {K : PySem.W.Frag} {A : List Addr} {H : Hp} (k : Key) {y : V} {z : D} (ry : Rep K g A H y z) : ∀ {vs : List (Key × V)} {ds : List (Key × D)}, RepP K g A H vs ds → RepP K g A H (vs.map fun kv => if kv.1 = k then (kv.1, y) else kv) (ds.map fun kv => if kv.1 = k then (kv.1, z) else kv)
  | _, _, .nil => .nil
  | _, _, .cons h l => by
    rename_i k' v d vs ds
    rw [List.map_cons, List.map_cons]
    by_cases e : k' = k
    · rw [if_pos e, if_pos e]; exact .cons ry (RepP.repl k ry l)
    · rw [if_neg e, if_neg e]; exact .cons h (RepP.repl k ry l)
theorem RepP.snoc {K : PySem.W.Frag} {A : List Addr} {H : Hp} {κ : Type} {k : κ} {y : V} {z : D} (ry : Rep K g A H y z) : ∀ {vs : List (κ × V)} {ds : List (κ × D)}, RepP K g A H vs ds → RepP K g A H (vs ++ [(k, y)]) (ds ++ [(k, z)])
  | _, _, .nil => .cons ry .nil
  | _, _, .cons h l => .cons h (RepP.snoc ry l)
theorem putV_eq (kvs : List (Key × V)) (k : Key) (v : V) : putK kvs k v = if (kvs.any fun kv => decide (kv.1 = k)) = true then kvs.map fun kv => if kv.1 = k then (kv.1, v) else kv else kvs ++ [(k, v)] := by
  unfold putK
  rfl
theorem RepP.put {K : PySem.W.Frag} {A : List Addr} {H : Hp} (k : Key) {y : V} {z : D} (ry : Rep K g A H y z) {vs : List (Key × V)} {ds : List (Key × D)} (r : RepP K g A H vs ds) : RepP K g A H (putK vs k y) (putD ds k z) := by
  rw [putV_eq]
  unfold putD
  rw [r.any k]
  split
  · exact r.repl k ry
  · exact r.snoc ry

/-! ### in -/
def dIn0 (neg : Bool) : F2 := fun x y m => match y with
  | .ref n => match m[n]? with
    | some (.dic kvs) => match keyD x with
      | some k => .ok (.bl (xor neg (valD kvs k).isSome)) m
      | none => .no
    | _ => match toP m DEEP y, toP m DEEP x with
      | some (.list ps), some p => if SeqAt.shaped p = true ∧ SeqAt.shaped (.list ps) = true then .ok (.bl (xor neg (ps.any fun z => PyData.eqv z p))) m else .no
      | _, _ => .no
  | .tup _ => match toP m DEEP y, toP m DEEP x with
      | some (.tuple ps), some p => if SeqAt.shaped p = true ∧ SeqAt.shaped (.tuple ps) = true then .ok (.bl (xor neg (ps.any fun z => PyData.eqv z p))) m else .no
      | _, _ => .no
  | .str s => match x with
    | .str t => .ok (.bl (xor neg (!(Builtin.Str.occurrences s t 0 s.length 1).isEmpty))) m
    | _ => .no
  | _ => .no
abbrev dIn : F2 := dIn0 false
abbrev dNotIn : F2 := dIn0 true
def rInTD (K : PySem.W.Frag) (neg : Bool) : R2 := fun x y H Q => ∃ d ds, Dp K H x d ∧ Dp K H y (.tuple ds) ∧ SeqAt.shaped d = true ∧ SeqAt.shaped (.tuple ds) = true ∧ Q (.bl (xor neg (ds.any fun z => PyData.eqv z d))) H
theorem op_inTD (hu : X.A.units + 65 < cLine) : OpR X (compareOp .In) (rInTD X.K false) := by
  intro pins s σ H x y v u Q I rx ry h
  obtain ⟨d, ds, hd, he, sd, se, q⟩ := h
  obtain ⟨as, r1⟩ := Dp.reads I d x v hd rx
  obtain ⟨bs, r2⟩ := Dp.reads I (.tuple ds) y u he ry
  rw [Bool.false_xor] at q
  exact SeqAt.in_tuple_reads r2 r1 (SeqAt.canLay_of_shaped se) (SeqAt.canLay_of_shaped sd) (PyProof.Rows.room_in_shaped sd hu) ⟨.bl _, H, I, rfl, q⟩
theorem op_notInTD (hu : X.A.units + 65 < cLine) : OpR X (compareOp .NotIn) (rInTD X.K true) := by
  intro pins s σ H x y v u Q I rx ry h
  obtain ⟨d, ds, hd, he, sd, se, q⟩ := h
  obtain ⟨as, r1⟩ := Dp.reads I d x v hd rx
  obtain ⟨bs, r2⟩ := Dp.reads I (.tuple ds) y u he ry
  rw [Bool.true_xor] at q
  exact SeqAt.notIn_tuple_reads r2 r1 (SeqAt.canLay_of_shaped se) (SeqAt.canLay_of_shaped sd) (PyProof.Rows.room_in_shaped sd hu) ⟨.bl _, H, I, rfl, q⟩
theorem op_inDict (hu : X.A.units + 65 < cLine) : OpR X (compareOp .In) (fun y x H Q => ∃ a o, x = .ref a ∧ DGet H a y o ∧ Q (.bl o.isSome) H) := by
  intro pins s σ H x y v u Q I rx ry h
  obtain ⟨a, o, rfl, hd, q⟩ := h
  obtain rfl : u = Value.ref a := ry
  exact d_in (by omega) I hd rx fun s3 I3 => ⟨.bl o.isSome, H, I3, rfl, q⟩
theorem op_notInDict (hu : X.A.units + 65 < cLine) : OpR X (compareOp .NotIn) (fun y x H Q => ∃ a o, x = .ref a ∧ DGet H a y o ∧ Q (.bl (!o.isSome)) H) := by
  intro pins s σ H x y v u Q I rx ry h
  obtain ⟨a, o, rfl, hd, q⟩ := h
  obtain rfl : u = Value.ref a := ry
  exact d_notIn (by omega) I hd rx fun s3 I3 => ⟨.bl (!o.isSome), H, I3, rfl, q⟩
theorem opA_in (hu : X.A.units + 65 < cLine) : OpA X g (compareOp .In) dIn := ⟨_, opR_or (op_inDict hu) (opR_or (op_inD hu) (opR_or (op_inTD hu) op_in_str)), fun A H mem x y dx dy Q W R rx ry p => by
  unfold dIn dIn0 at p
  simp only [Bool.false_xor] at p
  cases ry with
  | @ref n a ha =>
    dsimp only at p
    split at p
    · rename_i kvs hm
      split at p
      · rename_i k hk
        obtain ⟨ks, e1, q1⟩ := R.cell _ _ _ ha hm
        have ex := keyD_kV rx hk
        subst ex
        refine .inl ⟨a, valV ks k, rfl, DGet.k e1, ?_⟩
        have es : (valV ks k).isSome = (valD kvs k).isSome := by
          rcases q1.val k with ⟨h1, h2⟩ | ⟨v, d, h1, h2, _⟩ <;> rw [h1, h2] <;> rfl
        rw [es]
        exact p _ A H .refl R (.bl _)
      · exact p.elim
    · split at p
      · rename_i ps q ep eq
        split at p
        · rename_i hs
          exact .inr (.inl ⟨q, ps, toP_dp R _ _ _ _ rx eq, toP_dp R _ _ _ _ (.ref ha) ep, hs.1, hs.2, p _ A H .refl R (.bl _)⟩)
        · exact p.elim
      · exact p.elim
  | tup h l =>
    dsimp only at p
    split at p
    · rename_i ps q ep eq
      split at p
      · rename_i hs
        exact .inr (.inr (.inl ⟨q, ps, toP_dp R _ _ _ _ rx eq, toP_dp R _ _ _ _ (.tup h l) ep, hs.1, hs.2, p _ A H .refl R (by rw [Bool.false_xor]; exact .bl _)⟩))
      · exact p.elim
    · exact p.elim
  | str s =>
    cases rx with
    | str t => exact .inr (.inr (.inr ⟨t, s, rfl, rfl, p _ A H .refl R (.bl _)⟩))
    | _ => exact p.elim
  | _ => exact p.elim⟩
theorem opA_notIn (hu : X.A.units + 65 < cLine) : OpA X g (compareOp .NotIn) dNotIn := ⟨_, opR_or (op_notInDict hu) (opR_or (op_notInD hu) (opR_or (op_notInTD hu) L2.op_notin_str)), fun A H mem x y dx dy Q W R rx ry p => by
  unfold dNotIn dIn0 at p
  simp only [Bool.true_xor] at p
  cases ry with
  | @ref n a ha =>
    dsimp only at p
    split at p
    · rename_i kvs hm
      split at p
      · rename_i k hk
        obtain ⟨ks, e1, q1⟩ := R.cell _ _ _ ha hm
        have ex := keyD_kV rx hk
        subst ex
        refine .inl ⟨a, valV ks k, rfl, DGet.k e1, ?_⟩
        have es : (valV ks k).isSome = (valD kvs k).isSome := by
          rcases q1.val k with ⟨h1, h2⟩ | ⟨v, d, h1, h2, _⟩ <;> rw [h1, h2] <;> rfl
        rw [es]
        exact p _ A H .refl R (.bl _)
      · exact p.elim
    · split at p
      · rename_i ps q ep eq
        split at p
        · rename_i hs
          exact .inr (.inl ⟨q, ps, toP_dp R _ _ _ _ rx eq, toP_dp R _ _ _ _ (.ref ha) ep, hs.1, hs.2, p _ A H .refl R (.bl _)⟩)
        · exact p.elim
      · exact p.elim
  | tup h l =>
    dsimp only at p
    split at p
    · rename_i ps q ep eq
      split at p
      · rename_i hs
        exact .inr (.inr (.inl ⟨q, ps, toP_dp R _ _ _ _ rx eq, toP_dp R _ _ _ _ (.tup h l) ep, hs.1, hs.2, p _ A H .refl R (by rw [Bool.true_xor]; exact .bl _)⟩))
      · exact p.elim
    · exact p.elim
  | str s =>
    cases rx with
    | str t => exact .inr (.inr (.inr ⟨t, s, rfl, rfl, p _ A H .refl R (.bl _)⟩))
    | _ => exact p.elim
  | _ => exact p.elim⟩

/-! ### subscripts -/
def dIx : F2 := fun x y m => match x with
  | .ref n => match m[n]?, y with
    | some (.lst ds), .int i => match atI ds i with
      | some d => .ok d m
      | none => .no
    | some (.rol ds), .int i => match atI ds i with
      | some d => .ok d m
      | none => .no
    | some (.dic kvs), k => match keyD k with
      | some k => match valD kvs k with
        | some d => .ok d m
        | none => .no
      | none => .no
    | _, _ => .no
  | .tup ds => match y with
    | .int i => match atI ds i with
      | some d => .ok d m
      | none => .no
    | _ => .no
  | .str s => match y with
    | .int i => if s.length ≤ sizeLine then match atI s.cps.toList i with
      | some c => .ok (.str ⟨#[c]⟩) m
      | none => .no
      else .no
    | _ => .no
  | _ => .no
theorem RepL.atI {K : PySem.W.Frag} {A : List Addr} {H : Hp} {vs : List V} {ds : List D} {i : Int} {d : D} (r : RepL K g A H vs ds) (h : atI ds i = some d) : ∃ v, L2.atI vs i = some v ∧ Rep K g A H v d := by
  unfold L2.atI at h ⊢
  rw [r.length]
  cases e : ixN ds.length i with
  | none => rw [e] at h; cases h
  | some j =>
    rw [e, Option.bind_some] at h
    rw [Option.bind_some]
    exact r.get h
theorem ix_dict (hu : X.A.units + 1 < cLine) : IxR X (fun x y H Q => ∃ a v, x = .ref a ∧ DGet H a y (some v) ∧ Q v H) := by
  intro value slice pins s σ H x y v u Q I rx ry h hs
  obtain ⟨a, z, rfl, hd, q⟩ := h
  obtain rfl : v = Value.ref a := rx
  have g1 := d_getItem (A := X.A) (E := X.xe) (Q := EP X pins σ Q) hu I hd ry fun w' s3 I3 rw' => ⟨z, H, I3, rw', q⟩
  unfold PyProof.Rows.subscriptTail
  refine wpAny_bind ?_
  rw [PySem.getitemInPython_of_ne (dict_typeIs I hd).not_modules]
  refine wpAny_bind (wpAny_specialOf (dict_typeIs I hd) PySem.F.slot_dict_getitem.lookup ?_)
  have fin : wpAny (model X.prog X.w) X.A (subscripted slice false (Value.ref a) u) (fun r s₃ => wpAny (model X.prog X.w) X.A (letTemporaryGo value (Value.ref a) r >>= fun _ => pure r) (EP X pins σ Q) X.xe s₃) X.xe s := by
    rw [hs]
    exact wpAny_operating (wpAny_mono g1 (fun r s₃ h₃ => wpAny_bind (wpAny_letTemporaryGo (wpAny_pure h₃))) fun _ _ x => x)
  first
    | exact wpAny_pure (wpAny_bind fin)
    | exact wpAny_bind (wpAny_pure (wpAny_bind fin))
    | exact wpAny_bind fin
theorem ixA (hu : X.A.units + 1 < cLine) : IxA X g dIx := ⟨_, (ix_dict hu).or ix_seq, fun A H mem x y dx dy Q W R rx ry p => by
  unfold dIx at p
  cases rx with
  | @ref n a ha =>
    dsimp only at p
    split at p
    · rename_i ds i hm
      cases ry
      obtain ⟨vs, e1, q1⟩ := R.cell _ _ _ ha hm
      split at p
      · rename_i d hd
        obtain ⟨v, e2, q2⟩ := q1.atI hd
        exact .inr (.inl ⟨a, vs, i, v, rfl, rfl, .inl (.inl e1), e2, p _ A H .refl R q2⟩)
      · exact p.elim
    · rename_i ds i hm
      cases ry
      obtain ⟨vs, e1, q1⟩ := R.cell _ _ _ ha hm
      split at p
      · rename_i d hd
        obtain ⟨v, e2, q2⟩ := q1.atI hd
        exact .inr (.inl ⟨a, vs, i, v, rfl, rfl, e1.l, e2, p _ A H .refl R q2⟩)
      · exact p.elim
    · rename_i kvs hm
      obtain ⟨ks, e1, q1⟩ := R.cell _ _ _ ha hm
      split at p
      · rename_i k hk
        have ey := keyD_kV ry hk
        subst ey
        split at p
        · rename_i d hd
          rcases q1.val k with ⟨h1, h2⟩ | ⟨v, d', h1, h2, h3⟩
          · rw [h1] at hd; cases hd
          · rw [h1] at hd; cases hd
            exact .inl ⟨a, v, rfl, by rw [← h2]; exact DGet.k e1, p _ A H .refl R h3⟩
        · exact p.elim
      · exact p.elim
    · exact p.elim
  | tup h l =>
    dsimp only at p
    split at p
    · cases ry
      split at p
      · rename_i d hd
        obtain ⟨v, e2, q2⟩ := l.atI hd
        exact .inr (.inr (.inl ⟨_, _, _, v, rfl, rfl, h.t, e2, p _ A H .refl R q2⟩))
      · exact p.elim
    · exact p.elim
  | str s =>
    dsimp only at p
    split at p
    · cases ry
      split at p
      · rename_i hl
        split at p
        · rename_i c hc
          exact .inr (.inr (.inr ⟨_, _, c, rfl, rfl, hl, hc, p _ A H .refl R (.str _)⟩))
        · exact p.elim
      · exact p.elim
    · exact p.elim
  | _ => exact p.elim⟩

/-! ### slices -/
abbrev AO := Env' → Mem → R (Option Int)
structure SO (X : Cx) (g : Glb) (γ : Gam) (e : Option Expr) (a : AO) : Prop where
  out : ∀ W : WX, Takes X W → ∃ t : TO, PO X e t ∧ ∀ σ env A H mem Q, γ.Ok A → EnvR X.K g A H σ env → Rel X.K g A H mem → Post X.K g (fun _ _ => Eq) A H (a env mem) Q (fun c d H' => W c d σ H') → t σ H Q
def oNone : AO := fun _ m => .ok none m
def oSome (a : AE) : AO := fun env m => (a env m).bind fun d m => match d with
  | .int i => .ok (some i) m
  | _ => .no
theorem so_none {γ : Gam} : SO X g γ none oNone := ⟨fun W tk => ⟨_, po_none, fun σ env A H mem Q hg he hr hp => hp none A H .refl hr rfl⟩⟩
theorem so_some {γ : Gam} {e : Expr} {a : AE} (h : SE X g γ e a) : SO X g γ (some e) (oSome a) := ⟨fun W tk => by
  obtain ⟨t, p, q⟩ := h.out W tk
  refine ⟨_, po_some p, fun σ env A H mem Q hg he hr hp => ?_⟩
  refine q σ env A H mem _ hg he hr (hp.bnd fun v A1 H1 d m s1 r1 rv p1 => ?_)
  cases rv with
  | int i => exact ⟨i, rfl, p1 _ A1 H1 .refl r1 rfl⟩
  | _ => exact p1.elim⟩
def cutD {α : Type} (xs : List α) (lo hi : Option Int) : List α := (xs.drop (HT.sIx xs.length 0 lo)).take (HT.sIx xs.length xs.length hi - HT.sIx xs.length 0 lo)
def dSl (x : D) (lo hi : Option Int) (m : Mem) : R D := match x with
  | .ref n => match m[n]? with
    | some (.lst ds) => .ok (.ref m.length) (m ++ [.lst (cutD ds lo hi)])
    | some (.rol ds) => .ok (.ref m.length) (m ++ [.lst (cutD ds lo hi)])
    | _ => .no
  | .tup ds => .ok (.tup (cutD ds lo hi)) m
  | _ => .no
def eSl (a : AE) (lo hi : AO) : AE := fun env m => (a env m).bind fun x m => (lo env m).bind fun l m => (hi env m).bind fun h m => dSl x l h m
theorem RepL.cut {K : PySem.W.Frag} {A : List Addr} {H : Hp} {vs : List V} {ds : List D} (r : RepL K g A H vs ds) (lo hi : Option Int) : RepL K g A H (cutV vs lo hi) (cutD ds lo hi) := by
  unfold cutV cutD
  rw [r.length]
  exact (r.drop _).take _
theorem cutV_all {vs : List V} {lo hi : Option Int} (h : HT.sIx vs.length 0 lo = 0 ∧ HT.sIx vs.length vs.length hi = vs.length) : cutV vs lo hi = vs := by
  unfold cutV
  rw [h.1, h.2]; simp
theorem se_sl {γ : Gam} {e : Expr} {lo hi : Option Expr} {a : AE} {l h : AO} {p2 pos : Pos} (he : SE X g γ e a) (hl : SO X g γ lo l) (hh : SO X g γ hi h) : SE X g γ (.Subscript e (.Slice lo hi none p2) pos) (eSl a l h) := ⟨fun W tk => by
  obtain ⟨ta, pa, qa⟩ := he.out W tk
  obtain ⟨tl, pl, ql⟩ := hl.out W tk
  obtain ⟨th, ph, qh⟩ := hh.out W tk
  refine ⟨_, pe_slice (sl_list.or sl_tupF) pa pl ph, fun σ env A H mem Q hg he hr hp => ?_⟩
  refine qa σ env A H mem _ hg he hr (hp.bnd fun v A1 H1 d m s1 r1 rv p1 => ?_)
  refine ql σ env A1 H1 m _ (hg.pre s1.pre) (he.stab s1) r1 (p1.bnd fun l' A2 H2 d2 m2 s2 r2 rl p2 => ?_)
  refine qh σ env A2 H2 m2 _ (hg.pre (s1.trans s2).pre) (he.stab (s1.trans s2)) r2 (p2.bnd fun h' A3 H3 d3 m3 s3 r3 rh p3 => ?_)
  subst rl rh
  have rv3 := rv.stab (s2.trans s3)
  unfold dSl at p3
  cases rv3 with
  | @ref n a ha =>
    dsimp only at p3
    split at p3
    · rename_i ds hm
      obtain ⟨vs, e1, q1⟩ := r3.cell _ _ _ ha hm
      refine .inl ⟨a, vs, rfl, .inl (.inl e1), fun p' hp' => ?_⟩
      obtain ⟨s4, r4, e4⟩ := r3.alloc (o := .lst (cutV vs l' h')) (c := .lst (cutD ds l' h')) hp' fun s => ⟨_, upd_same, (q1.cut _ _).stab s⟩
      exact p3 _ _ _ s4 r4 (.ref e4)
    · rename_i ds hm
      obtain ⟨vs, e1, q1⟩ := r3.cell _ _ _ ha hm
      refine .inl ⟨a, vs, rfl, e1.l, fun p' hp' => ?_⟩
      obtain ⟨s4, r4, e4⟩ := r3.alloc (o := .lst (cutV vs l' h')) (c := .lst (cutD ds l' h')) hp' fun s => ⟨_, upd_same, (q1.cut _ _).stab s⟩
      exact p3 _ _ _ s4 r4 (.ref e4)
    · exact p3.elim
  | @tup a vs ds h l =>
    refine .inr ⟨a, vs, rfl, h.t, fun hw => ?_, fun hw p' o ho hp' => ?_⟩
    · refine p3 _ A3 H3 .refl r3 (.tup h ?_)
      have q := l.cut l' h'
      rw [cutV_all hw] at q
      exact q
    · obtain ⟨s4, r4⟩ := r3.new (o := .frz o (.tup (cutV vs l' h'))) hp'
      exact p3 _ A3 _ s4 r4 (.tup (.inl ⟨o, upd_same, ho⟩) ((l.cut _ _).stab s4))
  | _ => exact p3.elim⟩
end
end Ab
set_option Elab.async false
set_option linter.all false
set_option maxRecDepth 100000
namespace Ab
open PySem L2

/-! ### one reading for all contexts -/
def rdE (K : PySem.W.Frag) (g : Glb) (γ : Gam) (a : AE) (W : WX) : TE := fun σ H Q => ∃ env A mem, γ.Ok A ∧ EnvR K g A H σ env ∧ Rel K g A H mem ∧ Post K g (Rep K g) A H (a env mem) Q (fun c d H' => W c d σ H')
theorem SE.uni {X : Cx} {g : Glb} {γ : Gam} {e : Expr} {a : AE} (h : SE X g γ e a) {W : WX} (tk : Takes X W) : PE X e (rdE X.K g γ a W) := ⟨fun pins s σ H Q I hq => by
  obtain ⟨t, p, q⟩ := h.out W tk
  obtain ⟨env, A, mem, h1, h2, h3, h4⟩ := hq
  exact p.run pins s σ H Q I (q σ env A H mem Q h1 h2 h3 h4)⟩
def rdT (K : PySem.W.Frag) (g : Glb) (γ : Gam) (a : AT) (W : WX) : TT := fun σ H Q => ∃ env A mem, γ.Ok A ∧ EnvR K g A H σ env ∧ Rel K g A H mem ∧ Post K g (fun _ _ => Eq) A H (a env mem) Q (fun c d H' => W c d σ H')
theorem ST.uni {X : Cx} {g : Glb} {γ : Gam} {e : Expr} {a : AT} (h : ST X g γ e a) {W : WX} (tk : Takes X W) : PT X e (rdT X.K g γ a W) := ⟨fun pins s σ H Q I hq => by
  obtain ⟨t, p, q⟩ := h.out W tk
  obtain ⟨env, A, mem, h1, h2, h3, h4⟩ := hq
  exact p.run pins s σ H Q I (q σ env A H mem Q h1 h2 h3 h4)⟩

/-! ### targets -/
abbrev AG := D → Env' → Mem → R Env'
/-- the slots outside ws stay -/
def Frm (ws : List Nat) (σ σ' : L2.St) : Prop := σ'.length = σ.length ∧ ∀ i, i ∉ ws → σ'[i]? = σ[i]?
theorem Frm.refl {ws : List Nat} {σ : L2.St} : Frm ws σ σ := ⟨rfl, fun _ _ => rfl⟩
def rlG (K : PySem.W.Frag) (g : Glb) (ws : List Nat) (σ : L2.St) : List Addr → Hp → L2.St → Env' → Prop := fun A H σ' env' => EnvR K g A H σ' env' ∧ Frm ws σ σ'
structure SG (X : Cx) (g : Glb) (γ : Gam) (ws : List Nat) (e : Expr) (a : AG) : Prop where
  out : ∀ W : WX, Takes X W → ∃ t : TG, PG X e t ∧ ∀ v d σ env A H mem Q, γ.Ok A → EnvR X.K g A H σ env → Rel X.K g A H mem → Rep X.K g A H v d → Post X.K g (rlG X.K g ws σ) A H (a d env mem) Q (fun c d H' => W c d σ H') → t v σ H Q
def rdG (K : PySem.W.Frag) (g : Glb) (γ : Gam) (ws : List Nat) (a : AG) (W : WX) : TG := fun v σ H Q => ∃ d env A mem, γ.Ok A ∧ EnvR K g A H σ env ∧ Rel K g A H mem ∧ Rep K g A H v d ∧ Post K g (rlG K g ws σ) A H (a d env mem) Q (fun c d H' => W c d σ H')
theorem SG.uni {X : Cx} {g : Glb} {γ : Gam} {ws : List Nat} {e : Expr} {a : AG} (h : SG X g γ ws e a) {W : WX} (tk : Takes X W) : PG X e (rdG X.K g γ ws a W) := ⟨fun pins s σ H v u Q I r hq => by
  obtain ⟨t, p, q⟩ := h.out W tk
  obtain ⟨d, env, A, mem, h1, h2, h3, h5, h4⟩ := hq
  exact p.run pins s σ H v u Q I r (q v d σ env A H mem Q h1 h2 h3 h5 h4)⟩
def gN (i : Nat) : AG := fun d env m => .ok (env.set i (some d)) m
def gT (n : Nat) (t : List D → Env' → Mem → R Env') : AG := fun d env m => match d with
  | .tup ds => if ds.length = n then (match t ds env m with
    | .ok e2 m2 => .ok e2 m2
    | _ => .no) else .no
  | _ => .no
abbrev AGs := List D → Env' → Mem → R Env'
def gsNil : AGs := fun ds env m => match ds with
  | [] => .ok env m
  | _ => .no
/-- within a tuple no store may raise -/
def gsCons (t : AG) (u : AGs) : AGs := fun ds env m => match ds with
  | d :: r => match t d env m with
    | .ok env' m' => match u r env' m' with
      | .ok e2 m2 => .ok e2 m2
      | _ => .no
    | _ => .no
  | [] => .no
structure SGs (X : Cx) (g : Glb) (γ : Gam) (ws : List Nat) (es : List Expr) (a : AGs) : Prop where
  out : ∀ W : WX, Takes X W → ∃ t : TGs, PGs X es t ∧ ∀ vs ds σ env A H mem Q, γ.Ok A → EnvR X.K g A H σ env → Rel X.K g A H mem → RepL X.K g A H vs ds → Post X.K g (rlG X.K g ws σ) A H (a ds env mem) Q (fun _ _ _ => False) → t vs σ H Q
section
variable {X : Cx} {g : Glb} {γ : Gam} {pos : Pos} {ws ws1 ws2 : List Nat}
theorem sg_name (i : Nat) {x : Str} (hN : X.N.Nodup) (hi : X.N[i]? = some x := by rfl) (hx : Loc X.env.scope x := by first | exact Or.inl rfl | exact Or.inr rfl) (hf : X.fn x = true ∨ X.env.scope.names.lookup x = some .local := by first | exact .inl rfl | exact .inr rfl | assumption) (hw : i ∈ ws := by decide) : SG X g γ ws (.Name x pos) (gN i) :=
  ⟨fun W tk => ⟨_, pg_name hN hi hx hf, fun v d σ env A H mem Q hg he hr rv hp => by
    refine hp (σ.set i (some v)) A H .refl hr ⟨he.set i rv, by simp, fun j hj => ?_⟩
    rw [List.getElem?_set_ne]
    intro z
    exact hj (by rw [← z]; exact hw)⟩⟩
theorem sgs_nil : SGs X g γ ws [] gsNil := ⟨fun W tk => ⟨_, pgs_nil, fun vs ds σ env A H mem Q hg he hr rv hp => by
  unfold gsNil at hp
  cases rv with
  | nil => exact ⟨rfl, hp σ A H .refl hr ⟨he, .refl⟩⟩
  | cons _ _ => exact hp.elim⟩⟩
theorem sgs_cons {e : Expr} {es : List Expr} {t : AG} {u : AGs} (h1 : SG X g γ ws e t) (h2 : SGs X g γ ws es u)
    (hs : (assignEach (e :: es) X.env).map (·.2) = assign e X.env :: (assignEach es X.env).map (·.2) := by rfl) : SGs X g γ ws (e :: es) (gsCons t u) := ⟨fun W tk => by
  obtain ⟨t1, p1, q1⟩ := h1.out W tk
  obtain ⟨t2, p2, q2⟩ := h2.out W tk
  refine ⟨_, pgs_cons p1 p2 hs, fun vs ds σ env A H mem Q hg he hr rv hp => ?_⟩
  cases rv with
  | nil => exact hp.elim
  | cons r1 r2 =>
    rename_i v vs d ds
    refine ⟨v, vs, rfl, ?_⟩
    unfold gsCons at hp
    dsimp only at hp
    cases e1 : t d env mem with
    | er x m => rw [e1] at hp; exact hp.elim
    | no => rw [e1] at hp; exact hp.elim
    | ok env' m' =>
      rw [e1] at hp
      dsimp only at hp
      cases e2 : u ds env' m' with
      | er x m => rw [e2] at hp; exact hp.elim
      | no => rw [e2] at hp; exact hp.elim
      | ok env2 m2 =>
        rw [e2] at hp
        refine q1 v d σ env A H mem _ hg he hr r1 ?_
        rw [e1]
        intro σ1 A1 H1 s1 R1 ⟨E1, F1⟩
        refine q2 vs ds σ1 env' A1 H1 m' _ (hg.pre s1.pre) E1 R1 (r2.stab s1) ?_
        rw [e2]
        intro σ2 A2 H2 s2 R2 ⟨E2, F2⟩
        exact hp σ2 A2 H2 (s1.trans s2) R2 ⟨E2, F2.1.trans F1.1, fun i hi => (F2.2 i hi).trans (F1.2 i hi)⟩⟩
theorem sg_tup {es : List Expr} {k : Nat} {t : AGs} {n : Nat} (hc : X.calm = true) (h : SGs X g γ ws es t)
    (hn : (assignEach es X.env).length = n := by rfl) (hst : (assignEach es X.env).findIdx? (·.1) = none := by rfl) : SG X g γ ws (.Tuple es k pos) (gT n t) := ⟨fun W tk => by
  obtain ⟨t1, p1, q1⟩ := h.out W tk
  refine ⟨_, pg_tup hc p1 hn hst, fun v d σ env A H mem Q hg he hr rv hp => ?_⟩
  unfold gT at hp
  cases rv with
  | @tup a vs ds h l =>
    dsimp only at hp
    split at hp
    · rename_i hl
      refine ⟨a, vs, rfl, h.t, by rw [l.length]; exact hl, q1 vs ds σ env A H mem Q hg he hr l ?_⟩
      cases e1 : t ds env mem with
      | ok e2 m2 => rw [e1] at hp; exact hp
      | no => rw [e1] at hp; exact hp
      | er x m => rw [e1] at hp; exact hp.elim
    · exact hp.elim
  | _ => exact hp.elim⟩

/-! stores -/
structure StA (X : Cx) (g : Glb) (F : D → D → D → Mem → R Unit) : Prop where
  out : ∃ t : TSet, PSet X t ∧ ∀ A H mem o i v d1 d2 d3 Q, Rel X.K g A H mem → Rep X.K g A H o d1 → Rep X.K g A H i d2 → Rep X.K g A H v d3 → Post X.K g (fun _ _ (_ _ : Unit) => True) A H (F d1 d2 d3 mem) (fun _ H => Q H) (fun _ _ _ => False) → t o i v H Q
def dSet (x i v : D) (m : Mem) : R Unit := match x with
  | .ref n => match m[n]?, i with
    | some (.lst ds), .int k => match ixN ds.length k with
      | some j => .ok () (m.set n (.lst (ds.set j v)))
      | none => .no
    | some (.dic kvs), k => match keyD k with
      | some k => if kvs.length < sizeLine then .ok () (m.set n (.dic (putD kvs k v))) else .no
      | none => .no
    | _, _ => .no
  | _ => .no
theorem pset_or {r r' : TSet} (h : PSet X r) (h' : PSet X r') : PSet X (fun o i v H Q => r o i v H Q ∨ r' o i v H Q) := by
  intro pins s σ H o i v ov iv u Q I ro ri rv q
  rcases q with q | q
  · exact h pins s σ H o i v ov iv u Q I ro ri rv q
  · exact h' pins s σ H o i v ov iv u Q I ro ri rv q
theorem set_dict (hu : X.A.units + 1 < cLine) : PSet X (fun o i v H Q => ∃ a H', o = .ref a ∧ DPut H a i v H' ∧ Q H') := by
  intro pins s σ H o i v ov iv u Q I ro ri rv h
  obtain ⟨a, H', rfl, hd, q⟩ := h
  obtain rfl : ov = Value.ref a := ro
  exact d_setItem hu I hd ri rv fun s4 I4 => ⟨H', I4, q⟩
theorem stA (hu : X.A.units + 1 < cLine) : StA X g dSet := ⟨_, pset_or set_list (set_dict hu), fun A H mem o i v d1 d2 d3 Q R ro ri rv p => by
  unfold dSet at p
  cases ro with
  | @ref n a ha =>
    dsimp only at p
    split at p
    · rename_i ds k hm
      cases ri
      obtain ⟨vs, e1, q1⟩ := R.cell _ _ _ ha hm
      split at p
      · rename_i j hj
        refine .inl ⟨a, vs, k, j, rfl, rfl, e1, by rw [q1.length]; exact hj, ?_⟩
        obtain ⟨s2, r2⟩ := R.write (o' := .lst (vs.set j v)) (c' := .lst (ds.set j d3)) hm ha rfl rfl fun s => ⟨_, upd_same, (q1.stab s).set j (rv.stab s)⟩
        exact p () _ _ s2 r2 True.intro
      · exact p.elim
    · rename_i kvs hm
      obtain ⟨ks, e1, q1⟩ := R.cell _ _ _ ha hm
      split at p
      · rename_i k hk
        have ey := keyD_kV ri hk
        subst ey
        split at p
        · rename_i hl
          refine .inr ⟨a, _, rfl, DPut.k e1 (by rw [q1.length]; exact hl), ?_⟩
          obtain ⟨s2, r2⟩ := R.write (o' := .dK (putK ks k v)) (c' := .dic (putD kvs k d3)) hm ha rfl rfl fun s => ⟨_, upd_same, (q1.stab s).put k (rv.stab s)⟩
          exact p () _ _ s2 r2 True.intro
        · exact p.elim
      · exact p.elim
    · exact p.elim
  | _ => exact p.elim⟩
def gS (F : D → D → D → Mem → R Unit) (o i : AE) : AG := fun v env m => (o env m).bind fun x m => (i env m).bind fun y m => match F x y v m with
  | .ok _ m => .ok env m
  | _ => .no
theorem sg_sub {F : D → D → D → Mem → R Unit} {o i : Expr} {io ii : AE} (hs : StA X g F) (ho : SE X g γ o io) (hi : SE X g γ i ii)
    (ha : ∀ v, assign (.Subscript o i pos) X.env v = (do
      let ov ← holding [v] (eval o X.env)
      let iv ← holding [v, ov] (eval i X.env)
      standAt pos
      holding [v, ov, iv] (setItem ov iv v)
      release [v, ov, iv] []) := by intro _; rfl) : SG X g γ ws (.Subscript o i pos) (gS F io ii) := ⟨fun W tk => by
  obtain ⟨ts, ps, qs⟩ := hs.out
  obtain ⟨to, po, qo⟩ := ho.out W tk
  obtain ⟨ti, pi, qi⟩ := hi.out W tk
  refine ⟨_, pg_sub po pi ps ha, fun v d σ env A H mem Q hg he hr rv hp => ?_⟩
  refine qo σ env A H mem _ hg he hr (hp.bnd fun x A1 H1 dx m s1 r1 rx p1 => ?_)
  refine qi σ env A1 H1 m _ (hg.pre s1.pre) (he.stab s1) r1 (p1.bnd fun y A2 H2 dy m2 s2 r2 ry p2 => ?_)
  refine qs A2 H2 m2 x y v dx dy d _ r2 (rx.stab s2) ry (rv.stab (s1.trans s2)) ?_
  cases e : F dx dy d m2 with
  | ok u m3 =>
    rw [e] at p2
    exact fun _ A3 H3 s3 r3 _ => p2 σ A3 H3 s3 r3 ⟨he.stab (s1.trans (s2.trans s3)), .refl⟩
  | er x m => rw [e] at p2; exact p2.elim
  | no => rw [e] at p2; exact p2.elim⟩
end

/-! ### statements -/
inductive O where
  | nx (e : Env') (m : Mem)
  | rt (d : D) (m : Mem)
  | bk (e : Env') (m : Mem)
  | ct (e : Env') (m : Mem)
  | er (x : Ex) (e : Env') (m : Mem)
  | no
abbrev AS := Env' → Mem → O
def R.o {α : Type} (r : R α) (env : Env') (k : α → Mem → O) : O := match r with
  | .ok a m => k a m
  | .er x m => .er x env m
  | .no => .no
def O.seq (o : O) (k : AS) : O := match o with
  | .nx e m => k e m
  | o => o
def PostS (K : PySem.W.Frag) (g : Glb) (A : List Addr) (H : Hp) (o : O) (E : Ends) (W : WX) : Prop := match o with
  | .nx e m => ∀ σ A' H', Stab K A H A' H' → Rel K g A' H' m → EnvR K g A' H' σ e → E.nx σ H'
  | .rt d m => ∀ v A' H', Stab K A H A' H' → Rel K g A' H' m → Rep K g A' H' v d → E.rt v H'
  | .bk e m => ∀ σ A' H', Stab K A H A' H' → Rel K g A' H' m → EnvR K g A' H' σ e → E.bk σ H'
  | .ct e m => ∀ σ A' H', Stab K A H A' H' → Rel K g A' H' m → EnvR K g A' H' σ e → E.ct σ H'
  | .er x e m => ∀ c dd σ A' H', Stab K A H A' H' → Rel K g A' H' m → EnvR K g A' H' σ e → ExR g A' x c dd → W c dd σ H'
  | .no => False
theorem PostS.up {K : PySem.W.Frag} {g : Glb} {A A' : List Addr} {H H' : Hp} {o : O} {E : Ends} {W : WX} (s : Stab K A H A' H') (p : PostS K g A H o E W) : PostS K g A' H' o E W := by
  cases o with
  | nx e m => exact fun σ A2 H2 s2 r2 e2 => p σ A2 H2 (s.trans s2) r2 e2
  | rt e m => exact fun σ A2 H2 s2 r2 e2 => p σ A2 H2 (s.trans s2) r2 e2
  | bk e m => exact fun σ A2 H2 s2 r2 e2 => p σ A2 H2 (s.trans s2) r2 e2
  | ct e m => exact fun σ A2 H2 s2 r2 e2 => p σ A2 H2 (s.trans s2) r2 e2
  | er x e m => exact fun c dd σ A2 H2 s2 r2 e2 => p c dd σ A2 H2 (s.trans s2) r2 e2
  | no => exact p
/-- an expression, then what stands behind it -/
theorem PostS.of {K : PySem.W.Frag} {g : Glb} {α β : Type} {rl : List Addr → Hp → β → α → Prop} {A : List Addr} {H : Hp} {r : R α} {env : Env'} {k : α → Mem → O} {E : Ends} {W : WX} {Q : β → Hp → Prop} {σ : L2.St} (he : EnvR K g A H σ env)
    (p : PostS K g A H (r.o env k) E W) (h : ∀ v A' H' d m, Stab K A H A' H' → Rel K g A' H' m → rl A' H' v d → PostS K g A' H' (k d m) E W → Q v H') : Post K g rl A H r Q (fun c d H' => W c d σ H') := by
  cases r with
  | ok d m => exact fun v A2 H2 s2 r2 e2 => h v A2 H2 d m s2 r2 e2 (p.up s2)
  | er x m => exact fun c dd A2 H2 s2 r2 e2 => p c dd σ A2 H2 s2 r2 (he.stab s2) e2
  | no => exact p.elim
structure SS (X : Cx) (g : Glb) (γ : Gam) (st : Stmt) (a : AS) : Prop where
  out : ∀ W : WX, Takes X W → ∃ t : TS, PS X st t ∧ ∀ σ env A H mem E, γ.Ok A → EnvR X.K g A H σ env → Rel X.K g A H mem → PostS X.K g A H (a env mem) E W → t E σ H
structure SSs (X : Cx) (g : Glb) (γ : Gam) (sts : List Stmt) (a : AS) : Prop where
  out : ∀ W : WX, Takes X W → ∃ t : TS, PSs X sts t ∧ ∀ σ env A H mem E, γ.Ok A → EnvR X.K g A H σ env → Rel X.K g A H mem → PostS X.K g A H (a env mem) E W → t E σ H
def rdS (K : PySem.W.Frag) (g : Glb) (γ : Gam) (a : AS) (W : WX) : TS := fun E σ H => ∃ env A mem, γ.Ok A ∧ EnvR K g A H σ env ∧ Rel K g A H mem ∧ PostS K g A H (a env mem) E W
theorem SSs.uni {X : Cx} {g : Glb} {γ : Gam} {e : List Stmt} {a : AS} (h : SSs X g γ e a) {W : WX} (tk : Takes X W) : PSs X e (rdS X.K g γ a W) := ⟨fun pins s σ H Q I hq => by
  obtain ⟨t, p, q⟩ := h.out W tk
  obtain ⟨env, A, mem, h1, h2, h3, h4⟩ := hq
  exact p.run pins s σ H Q I (q σ env A H mem Q h1 h2 h3 h4)⟩
def sSeq (a b : AS) : AS := fun e m => (a e m).seq b
def sSkip : AS := fun e m => .nx e m
def sAsg (a : AE) (t : AG) : AS := fun e m => (a e m).o e fun d m => (t d e m).o e fun e m => .nx e m
def sRet (a : AE) : AS := fun e m => (a e m).o e fun d m => .rt d m
def sRetN : AS := fun _ m => .rt .non m
def sExp (a : AE) : AS := fun e m => (a e m).o e fun _ m => .nx e m
def sIf (c : AT) (a b : AS) : AS := fun e m => (c e m).o e fun k m => if k = true then a e m else b e m
def sBrk : AS := fun e m => .bk e m
def sCnt : AS := fun e m => .ct e m
def whileN (c : AT) (b : AS) : Nat → AS
  | 0 => fun _ _ => .no
  | n + 1 => fun e m => (c e m).o e fun k m => if k = true then (match b e m with
    | .nx e m => whileN c b n e m
    | .ct e m => whileN c b n e m
    | .bk e m => .nx e m
    | .rt d m => .rt d m
    | .er x e m => .er x e m
    | .no => .no) else .nx e m
open Classical in
noncomputable def sWhile (c : AT) (b : AS) : AS := fun e m => if h : ∃ n, whileN c b n e m ≠ .no then whileN c b (Classical.choose h) e m else .no
section
variable {X : Cx} {g : Glb} {γ : Gam} {pos : Pos}
theorem sss_nil : SSs X g γ [] sSkip := ⟨fun W tk => ⟨_, pss_nil, fun σ env A H mem E hg he hr hp => hp σ A H .refl hr he⟩⟩
theorem sss_one {st : Stmt} {a : AS} (h : SS X g γ st a) : SSs X g γ [st] a := ⟨fun W tk => by obtain ⟨t, p, q⟩ := h.out W tk; exact ⟨t, pss_one p, q⟩⟩
theorem sss_cons {st : Stmt} {rest : List Stmt} {a b : AS} (h1 : SS X g γ st a) (h2 : SSs X g γ rest b) : SSs X g γ (st :: rest) (sSeq a b) := ⟨fun W tk => by
  obtain ⟨t, p, q⟩ := h1.out W tk
  obtain ⟨u, p2, q2⟩ := h2.out W tk
  refine ⟨_, pss_cons p p2, fun σ env A H mem E hg he hr hp => ?_⟩
  refine q σ env A H mem _ hg he hr ?_
  unfold sSeq O.seq at hp
  cases e : a env mem with
  | nx e2 m2 =>
    rw [e] at hp
    exact fun σ2 A2 H2 s2 r2 e2' => q2 σ2 e2 A2 H2 m2 E (hg.pre s2.pre) e2' r2 (hp.up s2)
  | rt d m => rw [e] at hp; exact hp
  | bk d m => rw [e] at hp; exact hp
  | ct d m => rw [e] at hp; exact hp
  | er x d m => rw [e] at hp; exact hp
  | no => rw [e] at hp; exact hp⟩
theorem ss_asg {ws : List Nat} {tg e : Expr} {a : AE} {t : AG} (he : SE X g γ e a) (ht : SG X g γ ws tg t) (hs : swapsWithSole [tg] e pos.line X.env = pure false := by rfl) (hw : swappedStores [tg] e X.env = pure none := by rfl) (h1 : (assignEach [tg] X.env).map (·.2) = [assign tg X.env] := by rfl) : SS X g γ (.Assign [tg] e pos) (sAsg a t) := ⟨fun W tk => by
  obtain ⟨t1, p1, q1⟩ := he.out W tk
  obtain ⟨t2, p2, q2⟩ := ht.out W tk
  refine ⟨_, ps_asg p1 p2 hs hw h1, fun σ env A H mem E hg he hr hp => ?_⟩
  refine q1 σ env A H mem _ hg he hr (PostS.of (rl := Rep X.K g) he hp fun v A1 H1 d m s1 r1 rv p => ?_)
  refine q2 v d σ env A1 H1 m _ (hg.pre s1.pre) (he.stab s1) r1 rv (PostS.of (he.stab s1) p fun σ2 A2 H2 e2 m2 s2 r2 rv2 p2 => ?_)
  exact p2 σ2 A2 H2 .refl r2 rv2.1⟩
theorem ss_ret {e : Expr} {a : AE} (he : SE X g γ e a) : SS X g γ (.Return (some e) pos) (sRet a) := ⟨fun W tk => by
  obtain ⟨t1, p1, q1⟩ := he.out W tk
  refine ⟨_, ps_ret p1, fun σ env A H mem E hg he hr hp => ?_⟩
  exact q1 σ env A H mem _ hg he hr (PostS.of (rl := Rep X.K g) he hp fun v A1 H1 d m s1 r1 rv p => p v A1 H1 .refl r1 rv)⟩
theorem ss_retN : SS X g γ (.Return none pos) sRetN := ⟨fun W tk => ⟨_, ps_retN, fun σ env A H mem E hg he hr hp => hp .non A H .refl hr .non⟩⟩
theorem ss_exp {e : Expr} {a : AE} (he : SE X g γ e a) (hs : swapsWith e none pos.line X.env = pure false := by rfl) : SS X g γ (.Expr e pos) (sExp a) := ⟨fun W tk => by
  obtain ⟨t1, p1, q1⟩ := he.out W tk
  refine ⟨_, ps_expr p1 hs, fun σ env A H mem E hg he hr hp => ?_⟩
  exact q1 σ env A H mem _ hg he hr (PostS.of (rl := Rep X.K g) he hp fun v A1 H1 d m s1 r1 rv p => p σ A1 H1 .refl r1 (he.stab s1))⟩
theorem ss_if {c : Expr} {a b : List Stmt} {t : AT} {ia ib : AS} (hc : ST X g γ c t) (ha : SSs X g γ a ia) (hb : SSs X g γ b ib) : SS X g γ (.If c a b pos) (sIf t ia ib) := ⟨fun W tk => by
  obtain ⟨tc, pc, qc⟩ := hc.out W tk
  obtain ⟨ta, pa, qa⟩ := ha.out W tk
  obtain ⟨tb, pb, qb⟩ := hb.out W tk
  refine ⟨_, ps_if pc pa pb, fun σ env A H mem E hg he hr hp => ?_⟩
  refine qc σ env A H mem _ hg he hr (PostS.of he hp fun v A1 H1 d m s1 r1 rv p => ?_)
  subst rv
  cases v with
  | true => exact qa σ env A1 H1 m _ (hg.pre s1.pre) (he.stab s1) r1 p
  | false => exact qb σ env A1 H1 m _ (hg.pre s1.pre) (he.stab s1) r1 p⟩
theorem ss_pass : SS X g γ (.Pass pos) sSkip := ⟨fun W tk => ⟨_, ps_pass, fun σ env A H mem E hg he hr hp => hp σ A H .refl hr he⟩⟩
theorem ss_brk : SS X g γ (.Break pos) sBrk := ⟨fun W tk => ⟨_, ps_break, fun σ env A H mem E hg he hr hp => hp σ A H .refl hr he⟩⟩
theorem ss_cnt : SS X g γ (.Continue pos) sCnt := ⟨fun W tk => ⟨_, ps_continue, fun σ env A H mem E hg he hr hp => hp σ A H .refl hr he⟩⟩
theorem whileN_mono {c : AT} {b : AS} : ∀ (n : Nat) (e : Env') (m : Mem), whileN c b n e m ≠ .no → ∀ k, whileN c b (n + k) e m = whileN c b n e m := by
  intro n
  induction n with
  | zero => intro e m h; exact absurd rfl h
  | succ n ih =>
    intro e m h k
    rw [Nat.succ_add]
    unfold whileN at h ⊢
    cases hc : c e m with
    | er x m1 => rw [hc] at h; rfl
    | no => rfl
    | ok b1 m1 =>
      rw [hc] at h
      unfold R.o at h ⊢
      dsimp only at h ⊢
      cases b1 with
      | false => rfl
      | true =>
        rw [if_pos rfl] at h ⊢
        rw [if_pos rfl]
        cases hb : b e m1 with
        | nx e2 m2 => rw [hb] at h; exact ih e2 m2 h k
        | ct e2 m2 => rw [hb] at h; exact ih e2 m2 h k
        | bk e2 m2 => rfl
        | rt d m2 => rfl
        | er x e2 m2 => rfl
        | no => rfl
theorem sWhile_of {c : AT} {b : AS} {n : Nat} {e : Env'} {m : Mem} {o : O} (h : whileN c b n e m = o) (ho : o ≠ .no) : sWhile c b e m = o := by
  have hx : ∃ n, whileN c b n e m ≠ .no := ⟨n, by rw [h]; exact ho⟩
  unfold sWhile
  rw [dif_pos hx]
  have h1 := Classical.choose_spec hx
  have h2 := whileN_mono _ e m h1 n
  have h3 := whileN_mono n e m (by rw [h]; exact ho) (Classical.choose hx)
  rw [← h, ← h3, Nat.add_comm, h2]
theorem ss_while {c : Expr} {body : List Stmt} {t : AT} {b : AS} (hp : PassesOwn (model X.prog X.w) X.A X.env X.xe) (hc : ST X g γ c t) (hb : SSs X g γ body b) : SS X g γ (.While c body [] pos) (sWhile t b) := ⟨fun W tk => by
  obtain ⟨tc, pc, qc⟩ := hc.out W tk
  obtain ⟨tb, pb, qb⟩ := hb.out W tk
  refine ⟨_, ps_while hp pc pb, fun σ env A H mem E hg he hr hp => ?_⟩
  refine ⟨fun n σ H => ∃ env A mem, γ.Ok A ∧ EnvR X.K g A H σ env ∧ Rel X.K g A H mem ∧ PostS X.K g A H (whileN t b n env mem) E W, ?_, ?_⟩
  · unfold sWhile at hp
    split at hp
    · rename_i hx
      exact ⟨_, env, A, mem, hg, he, hr, hp⟩
    · exact hp.elim
  · rintro n σ H ⟨env, A, mem, hg, he, hr, hp⟩
    cases n with
    | zero => exact hp.elim
    | succ n =>
      unfold whileN at hp
      refine qc σ env A H mem _ hg he hr (PostS.of he hp fun v A1 H1 d m s1 r1 rv p => ?_)
      subst rv
      cases v with
      | false => rw [if_neg Bool.false_ne_true] at p ⊢; exact p σ A1 H1 .refl r1 (he.stab s1)
      | true =>
        rw [if_pos rfl] at p
        rw [if_pos rfl]
        refine ⟨fun σ' H' => ∃ env A mem, γ.Ok A ∧ EnvR X.K g A H' σ' env ∧ Rel X.K g A H' mem ∧ PostS X.K g A H' (whileN t b n env mem) E W, fun σ' H' h => ⟨n, Nat.lt_succ_self n, h⟩, ?_⟩
        have hg1 := hg.pre s1.pre
        refine qb σ env A1 H1 m _ hg1 (he.stab s1) r1 ?_
        cases e : b env m with
        | nx e2 m2 => rw [e] at p; exact fun σ2 A2 H2 s2 r2 e2' => ⟨e2, A2, m2, hg1.pre s2.pre, e2', r2, p.up s2⟩
        | ct e2 m2 => rw [e] at p; exact fun σ2 A2 H2 s2 r2 e2' => ⟨e2, A2, m2, hg1.pre s2.pre, e2', r2, p.up s2⟩
        | bk e2 m2 => rw [e] at p; exact p
        | rt d m2 => rw [e] at p; exact p
        | er x e2 m2 => rw [e] at p; exact p
        | no => rw [e] at p; exact p⟩
end
end Ab
set_option Elab.async false
set_option linter.all false
set_option maxRecDepth 100000
namespace Ab
open PySem L2
abbrev Gd := List (Nat × Cell)
def Gd.Ok (gd : Gd) (m : Mem) : Prop := ∀ p ∈ gd, m[p.1]? = some p.2
abbrev AI := Env' → Mem → R (List D × Gd)
/-- what is walked: its items, as long as its cells stand -/
def ItR (K : PySem.W.Frag) (g : Glb) (A : List Addr) (H : Hp) (J : It) (p : List D × Gd) : Prop := ∀ (i : Nat) (A1 : List Addr) (H1 : Hp) (m1 : Mem), Stab K A H A1 H1 → Rel K g A1 H1 m1 → p.2.Ok m1 →
  (∀ d, p.1[i]? = some d → J.go i H1 ∧ ∀ x H2, J.yld i H1 x H2 → ∃ A2, Stab K A1 H1 A2 H2 ∧ Rel K g A2 H2 m1 ∧ Rep K g A2 H2 x d) ∧ (p.1.length ≤ i → J.stop p.1.length H1)
structure SI (X : Cx) (g : Glb) (γ : Gam) (tg iter : Expr) (a : AI) : Prop where
  out : ∀ W : WX, Takes X W → ∃ wi : TI, PI X tg iter wi ∧ ∀ σ env A H mem (Q : It → Hp → Prop), γ.Ok A → EnvR X.K g A H σ env → Rel X.K g A H mem → Post X.K g (ItR X.K g) A H (a env mem) Q (fun c d H' => W c d σ H') → wi σ H Q
open Classical in
noncomputable def forL (tg : AG) (b : AS) (gd : Gd) : List D → AS
  | [] => fun e m => if gd.Ok m then .nx e m else .no
  | d :: r => fun e m => if gd.Ok m then (tg d e m).o e fun e2 m2 => (match b e2 m2 with
    | .nx e m => forL tg b gd r e m
    | .ct e m => forL tg b gd r e m
    | .bk e m => .nx e m
    | .rt d m => .rt d m
    | .er x e m => .er x e m
    | .no => .no) else .no
noncomputable def sFor (it : AI) (tg : AG) (b : AS) : AS := fun e m => (it e m).o e fun p m => forL tg b p.2 p.1 e m
section
variable {X : Cx} {g : Glb} {γ : Gam} {pos : Pos}
theorem ss_for {ws : List Nat} {tg iter : Expr} {body : List Stmt} {ai : AI} {t : AG} {b : AS} (hp : PassesOwn (model X.prog X.w) X.A X.env X.xe) (hc : X.calm = true) (hi : SI X g γ tg iter ai) (ht : SG X g γ ws tg t) (hb : SSs X g γ body b)
    (hs : ∀ x, foldedSetIterable iter X.env x = pure x := by intro _; rfl) : SS X g γ (.For tg iter body [] pos) (sFor ai t b) := ⟨fun W tk => by
  obtain ⟨wi, pi, qi⟩ := hi.out W tk
  obtain ⟨tt, pt, qt⟩ := ht.out W tk
  obtain ⟨tb, pb, qb⟩ := hb.out W tk
  refine ⟨_, ps_for hp hc pi pt pb hs, fun σ env A H mem E hg he hr hpo => ?_⟩
  refine qi σ env A H mem _ hg he hr (PostS.of he hpo fun J A1 H1 p m s1 r1 itr p1 => ?_)
  obtain ⟨items, gd⟩ := p
  refine ⟨fun i n σ H => n = items.length - i ∧ i ≤ items.length ∧ ∃ env A mem, Stab X.K A1 H1 A H ∧ γ.Ok A ∧ EnvR X.K g A H σ env ∧ Rel X.K g A H mem ∧ PostS X.K g A H (forL t b gd (items.drop i) env mem) E W, ⟨items.length, by simp, Nat.zero_le _, env, A1, m, .refl, hg.pre s1.pre, he.stab s1, r1, p1⟩, ?_⟩
  rintro i n σ H ⟨rfl, hi, env, A, mem, s, hg, he, hr, hp⟩
  by_cases hlt : i < items.length
  · have hd : items.drop i = items[i] :: items.drop (i + 1) := List.drop_eq_getElem_cons hlt
    rw [hd] at hp
    unfold forL at hp
    split at hp
    · rename_i ok
      obtain ⟨go, _⟩ := itr i A H mem s hr ok
      obtain ⟨go, yl⟩ := go items[i] (List.getElem?_eq_getElem hlt)
      refine .inr ⟨go, fun σ' H' => ∃ env A mem, Stab X.K A1 H1 A H' ∧ γ.Ok A ∧ EnvR X.K g A H' σ' env ∧ Rel X.K g A H' mem ∧ PostS X.K g A H' (forL t b gd (items.drop (i + 1)) env mem) E W, fun σ' H' ⟨env, A, mem, h⟩ => ⟨items.length - (i + 1), by omega, rfl, hlt, env, A, mem, h⟩, fun x H2 hy => ?_⟩
      obtain ⟨A2, s2, r2, rx⟩ := yl x H2 hy
      refine qt x items[i] σ env A2 H2 mem _ (hg.pre s2.pre) (he.stab s2) r2 rx (PostS.of (he.stab s2) (hp.up s2) fun σ3 A3 H3 e3 m3 s3 r3 rv3 p3 => ?_)
      have hg3 := hg.pre (s2.trans s3).pre
      have st3 := s.trans (s2.trans s3)
      refine qb σ3 e3 A3 H3 m3 _ hg3 rv3.1 r3 ?_
      cases e : b e3 m3 with
      | nx e4 m4 => rw [e] at p3; exact fun σ4 A4 H4 s4 r4 e4' => ⟨e4, A4, m4, st3.trans s4, hg3.pre s4.pre, e4', r4, p3.up s4⟩
      | ct e4 m4 => rw [e] at p3; exact fun σ4 A4 H4 s4 r4 e4' => ⟨e4, A4, m4, st3.trans s4, hg3.pre s4.pre, e4', r4, p3.up s4⟩
      | bk e4 m4 => rw [e] at p3; exact p3
      | rt d m4 => rw [e] at p3; exact p3
      | er x e4 m4 => rw [e] at p3; exact p3
      | no => rw [e] at p3; exact p3
    · exact hp.elim
  · have e : i = items.length := by omega
    subst e
    rw [List.drop_length] at hp
    unfold forL at hp
    split at hp
    · rename_i ok
      obtain ⟨_, st⟩ := itr items.length A H mem s hr ok
      exact .inl ⟨st (Nat.le_refl _), hp σ A H .refl hr he⟩
    · exact hp.elim⟩

/-! ### what is walked -/
theorem pi_or {tg iter : Expr} {w1 w2 : TI} (h1 : PI X tg iter w1) (h2 : PI X tg iter w2) : PI X tg iter (fun σ H R => w1 σ H R ∨ w2 σ H R) := ⟨fun pins s σ H R I h => by
  rcases h with h | h
  · exact h1.run pins s σ H R I h
  · exact h2.run pins s σ H R I h⟩
def itD (d : D) (m : Mem) : R (List D × Gd) := match d with
  | .tup ds => .ok (ds, []) m
  | .ref n => match m[n]? with
    | some (.lst ds) => .ok (ds, [(n, .lst ds)]) m
    | some (.rol ds) => .ok (ds, [(n, .rol ds)]) m
    | _ => .no
  | .str s => .ok (s.cps.toList.map fun c => .str ⟨#[c]⟩, []) m
  | _ => .no
def iE (a : AE) : AI := fun e m => (a e m).bind itD
theorem itr_list {A : List Addr} {H : Hp} {n : Nat} {a : Addr} {ds : List D} {c : Cell} (ha : A[n]? = some a) (hc : c = .lst ds ∨ c = .rol ds) : ItR X.K g A H (Itl X.K a) (ds, [(n, c)]) := fun i A1 H1 m1 s1 r1 ok => by
  have hm : m1[n]? = some c := ok (n, c) (List.mem_singleton.mpr rfl)
  have ha1 := pre_get s1.pre ha
  have hcr := r1.cell _ _ _ ha1 hm
  obtain ⟨vs, hl, q⟩ : ∃ vs, SqL X.K H1 a vs ∧ RepL X.K g A1 H1 vs ds := by
    rcases hc with rfl | rfl
    · obtain ⟨vs, e, q⟩ := hcr; exact ⟨vs, .inl (.inl e), q⟩
    · obtain ⟨vs, e, q⟩ := hcr; exact ⟨vs, e.l, q⟩
  refine ⟨fun d hd => ?_, fun hle => ⟨vs, hl, by rw [q.length]; exact Nat.le_refl _⟩⟩
  obtain ⟨v, hv, rv⟩ := q.get hd
  refine ⟨⟨vs, v, hl, hv⟩, fun x H2 ⟨e, y⟩ => ?_⟩
  subst e
  have hx := y vs hl
  rw [hv] at hx
  cases hx
  exact ⟨A1, .refl, r1, rv⟩
theorem itr_tup {A : List Addr} {H : Hp} {a : Addr} {vs : List V} {ds : List D} (hs : SqN X.K H a vs) (q : RepL X.K g A H vs ds) : ItR X.K g A H (Itt X.K a) (ds, []) := fun i A1 H1 m1 s1 r1 ok => by
  have hl := s1.tup _ _ hs
  have q := q.stab s1
  refine ⟨fun d hd => ?_, fun hle => ⟨vs, hl.t, by rw [q.length]; exact Nat.le_refl _⟩⟩
  obtain ⟨v, hv, rv⟩ := q.get hd
  refine ⟨⟨vs, v, hl.t, hv⟩, fun x H2 ⟨e, y⟩ => ?_⟩
  subst e
  have hx := y vs hl.t
  rw [hv] at hx
  cases hx
  exact ⟨A1, .refl, r1, rv⟩
/-- for x in e -/
theorem si_e {tg e : Expr} {a : AE} (h : SE X g γ e a) : SI X g γ tg e (iE a) := ⟨fun W tk => by
  obtain ⟨t, p, q⟩ := h.out W tk
  refine ⟨_, pi_or (pi_list p) (pi_or (pi_tup p) (pi_str p)), fun σ env A H mem Q hg he hr hp => ?_⟩
  unfold iE at hp
  cases e1 : a env mem with
  | er x m =>
    rw [e1] at hp
    exact .inl (q σ env A H mem _ hg he hr (by rw [e1]; exact hp))
  | no => rw [e1] at hp; exact hp.elim
  | ok d m =>
    rw [e1] at hp
    change Post X.K g (ItR X.K g) A H (itD d m) Q _ at hp
    unfold itD at hp
    cases d with
    | tup ds =>
      refine .inr (.inl (q σ env A H mem _ hg he hr ?_))
      rw [e1]
      intro v A1 H1 s1 r1 rv
      cases rv with
      | tup hs l => exact ⟨_, rfl, ⟨_, hs.t⟩, hp _ A1 H1 s1 r1 (itr_tup hs l)⟩
    | ref n =>
      dsimp only at hp
      refine .inl (q σ env A H mem _ hg he hr ?_)
      rw [e1]
      intro v A1 H1 s1 r1 rv
      cases rv with
      | @ref _ a ha =>
        split at hp
        · rename_i ds hm
          obtain ⟨vs, e2, q2⟩ := r1.cell _ _ _ ha hm
          exact ⟨a, rfl, ⟨vs, .inl (.inl e2)⟩, hp _ A1 H1 s1 r1 (itr_list ha (.inl rfl))⟩
        · rename_i ds hm
          obtain ⟨vs, e2, q2⟩ := r1.cell _ _ _ ha hm
          exact ⟨a, rfl, ⟨vs, e2.l⟩, hp _ A1 H1 s1 r1 (itr_list ha (.inr rfl))⟩
        · exact hp.elim
    | str s =>
      refine .inr (.inr (q σ env A H mem _ hg he hr ?_))
      rw [e1]
      intro v A1 H1 s1 r1 rv
      cases rv with
      | str =>
        refine ⟨s, rfl, hp _ A1 H1 s1 r1 fun i A2 H2 m2 s2 r2 ok => ⟨fun d hd => ?_, fun _ => ?_⟩⟩
        · rw [List.getElem?_map] at hd
          cases hc : s.cps.toList[i]? with
          | none => rw [hc] at hd; cases hd
          | some c =>
            rw [hc] at hd
            cases hd
            have hl : i < s.cps.size := by
              have := (List.getElem?_eq_some_iff.mp hc).1
              simpa using this
            refine ⟨hl, fun x H3 y => ?_⟩
            obtain ⟨e, c', hc', ex⟩ := y
            subst e
            have : c' = c := by
              have h3 : s.cps[i]? = some c := by simpa using hc
              rw [h3] at hc'
              exact (Option.some.inj hc').symm
            subst this
            subst ex
            exact ⟨A2, .refl, r2, .str _⟩
        · show s.cps.size ≤ _
          simp
    | _ => exact hp.elim⟩

@[irreducible] def rng1 (ds : List D) (m : Mem) : R (List D × Gd) := match ds with
  | [.int j] => if -(2 ^ 62) ≤ j ∧ j < 2 ^ 62 then .ok ((List.range j.toNat).map fun (i : Nat) => .int (i : Int), []) m else .no
  | _ => .no
@[irreducible] def rng2 (ds : List D) (m : Mem) : R (List D × Gd) := match ds with
  | [.int i, .int j] => if -(2 ^ 62) ≤ i ∧ i < 2 ^ 62 ∧ -(2 ^ 62) ≤ j ∧ j < 2 ^ 62 then .ok ((List.range (j - i).toNat).map fun (k : Nat) => .int (i + (k : Int)), []) m else .no
  | _ => .no
def iA (f : List D → Mem → R (List D × Gd)) (a : AA) : AI := fun e m => (a e m).bind f
theorem itr_rng {A : List Addr} {H : Hp} {lo : Int} {n : Nat} {f : Nat → D} (hf : ∀ i : Nat, f i = .int (lo + i)) : ItR X.K g A H (Itr lo n) ((List.range n).map f, []) := fun i A1 H1 m1 s1 r1 ok => by
  refine ⟨fun d hd => ?_, fun hle => ?_⟩
  · rw [List.getElem?_map] at hd
    cases hc : (List.range n)[i]? with
    | none => rw [hc] at hd; cases hd
    | some c =>
      rw [hc] at hd
      cases hd
      obtain ⟨hl, e⟩ := List.getElem?_eq_some_iff.mp hc
      have e' : c = i := by simpa using e.symm
      subst e'
      have hl' : c < n := by simpa using hl
      refine ⟨hl', fun x H3 y => ?_⟩
      obtain ⟨e, ex⟩ := y
      subst e
      subst ex
      rw [hf]
      exact ⟨A1, .refl, r1, .int _⟩
  · show n ≤ _
    simp
theorem si_range1 {tg a : Expr} {p : Pos} {aa : AA} (hm : X.mg "range" = none) (ha : SA X g γ [a] aa) (hg : L2.Gl X "range" := by rfl) (hs : starEach [a] X.env = [(false, eval a X.env)] := by rfl) : SI X g γ tg (.Call (.Name "range" p) [a] [] pos) (iA rng1 aa) := ⟨fun W tk => by
  obtain ⟨t, pa, q⟩ := ha.out W tk
  refine ⟨_, pi_range1 hg hm pa hs, fun σ env A H mem Q hg he hr hp => ?_⟩
  refine q σ env A H mem _ hg he hr (hp.bnd fun vs A1 H1 ds m s1 r1 rv p1 => ?_)
  unfold rng1 at p1
  split at p1
  · rename_i j
    cases rv with
    | cons h1 h2 =>
      cases h2; cases h1
      split at p1
      · rename_i hb
        exact ⟨j, rfl, hb.1, hb.2, p1 _ A1 H1 .refl r1 (itr_rng fun i => by simp)⟩
      · exact p1.elim
  · exact p1.elim⟩
theorem si_range2 {tg a b : Expr} {p : Pos} {aa : AA} (hm : X.mg "range" = none) (ha : SA X g γ [a, b] aa) (hg : L2.Gl X "range" := by rfl) (hs : starEach [a, b] X.env = [(false, eval a X.env), (false, eval b X.env)] := by rfl) (hs2 : starEach [b] X.env = [(false, eval b X.env)] := by rfl) : SI X g γ tg (.Call (.Name "range" p) [a, b] [] pos) (iA rng2 aa) := ⟨fun W tk => by
  obtain ⟨t, pa, q⟩ := ha.out W tk
  refine ⟨_, pi_range2 hg hm pa hs hs2, fun σ env A H mem Q hg he hr hp => ?_⟩
  refine q σ env A H mem _ hg he hr (hp.bnd fun vs A1 H1 ds m s1 r1 rv p1 => ?_)
  unfold rng2 at p1
  split at p1
  · rename_i i j
    cases rv with
    | cons h1 h2 => cases h2 with
      | cons h3 h4 =>
        cases h4; cases h1; cases h3
        split at p1
        · rename_i hb
          exact ⟨i, j, rfl, hb, p1 _ A1 H1 .refl r1 (itr_rng fun i => by simp)⟩
        · exact p1.elim
  · exact p1.elim⟩
/-! pairs made on the way -/
def enumD (ds : List D) : List D := ds.zipIdx.map fun p => .tup [.int (p.2 : Int), p.1]
def enm (ds : List D) (m : Mem) : R (List D × Gd) := match ds with
  | [.str _] => .no
  | [d] => (itD d m).bind fun p m => .ok (enumD p.1, p.2) m
  | _ => .no
def zipD (xs ys : List D) : List D := (xs.zip ys).map fun p => .tup [p.1, p.2]
def zpp (ds : List D) (m : Mem) : R (List D × Gd) := match ds with
  | [.str _, _] => .no
  | [_, .str _] => .no
  | [d, e] => (itD d m).bind fun p m => (itD e m).bind fun q m => .ok (zipD p.1 q.1, p.2 ++ q.2) m
  | _ => .no
theorem enumD_get {ds : List D} {i : Nat} {d : D} (h : (enumD ds)[i]? = some d) : ∃ x, ds[i]? = some x ∧ d = .tup [.int (i : Int), x] := by
  unfold enumD at h
  rw [List.getElem?_map, List.getElem?_zipIdx] at h
  cases e : ds[i]? with
  | none => rw [e] at h; cases h
  | some x =>
    rw [e] at h
    simp at h
    exact ⟨x, rfl, h.symm⟩
theorem enumD_len {ds : List D} : (enumD ds).length = ds.length := by simp [enumD]
theorem zipD_get {xs ys : List D} {i : Nat} {d : D} (h : (zipD xs ys)[i]? = some d) : ∃ x y, xs[i]? = some x ∧ ys[i]? = some y ∧ d = .tup [x, y] := by
  unfold zipD at h
  rw [List.getElem?_map] at h
  cases e : (xs.zip ys)[i]? with
  | none => rw [e] at h; cases h
  | some p =>
    rw [e] at h
    cases h
    obtain ⟨h1, h2⟩ := List.getElem?_zip_eq_some.mp e
    exact ⟨p.1, p.2, h1, h2, rfl⟩
theorem zipD_len {xs ys : List D} : (zipD xs ys).length = min xs.length ys.length := by simp [zipD]
theorem rep_pair {A : List Addr} {H : Hp} {T : Addr} {o : Obj} {x y : V} {dx dy : D} {m : Mem} (hn : H T = none) (ho : o.dict = none) (r : Rel X.K g A H m) (rx : Rep X.K g A H x dx) (ry : Rep X.K g A H y dy) : Stab X.K A H A (upd H T (.frz o (.tup [x, y]))) ∧ Rel X.K g A (upd H T (.frz o (.tup [x, y]))) m ∧ Rep X.K g A (upd H T (.frz o (.tup [x, y]))) (.ref T) (.tup [dx, dy]) := by
  obtain ⟨s2, r2⟩ := r.new (o := .frz o (.tup [x, y])) hn
  exact ⟨s2, r2, .tup (.inl ⟨o, upd_same, ho⟩) (.cons (rx.stab s2) (.cons (ry.stab s2) .nil))⟩
/-- a list or a tuple that may be walked: its items as long as its cell stands -/
theorem src_of {A : List Addr} {H : Hp} {v : V} {d : D} {m m2 : Mem} {ds : List D} {gd : Gd} (r : Rel X.K g A H m) (rv : Rep X.K g A H v d) (hs : ∀ s, d ≠ .str s) (h : itD d m = .ok (ds, gd) m2) : m2 = m ∧ gd.Ok m ∧ ∃ b a, v = .ref a ∧ ∀ A1 H1 m1, Stab X.K A H A1 H1 → Rel X.K g A1 H1 m1 → gd.Ok m1 → ∃ vs, SqB X.K b H1 a vs ∧ RepL X.K g A1 H1 vs ds := by
  unfold itD at h
  cases rv with
  | @tup a vs ds' hn l =>
    cases h
    exact ⟨rfl, (fun p hp => by cases hp), true, a, rfl, fun A1 H1 m1 s1 r1 ok => ⟨vs, (s1.tup _ _ hn).t, l.stab s1⟩⟩
  | @ref n a ha =>
    dsimp only at h
    split at h
    · rename_i ds' hm
      cases h
      refine ⟨rfl, fun p hp => by rw [List.mem_singleton.mp hp]; exact hm, false, a, rfl, fun A1 H1 m1 s1 r1 ok => ?_⟩
      obtain ⟨vs, e, q⟩ := r1.cell _ _ _ (pre_get s1.pre ha) (ok _ (List.mem_singleton.mpr rfl))
      exact ⟨vs, .inl (.inl e), q⟩
    · rename_i ds' hm
      cases h
      refine ⟨rfl, fun p hp => by rw [List.mem_singleton.mp hp]; exact hm, false, a, rfl, fun A1 H1 m1 s1 r1 ok => ?_⟩
      obtain ⟨vs, e, q⟩ := r1.cell _ _ _ (pre_get s1.pre ha) (ok _ (List.mem_singleton.mpr rfl))
      exact ⟨vs, e.l, q⟩
    · cases h
  | str s => exact absurd rfl (hs s)
  | _ => cases h
theorem si_enum {e : Expr} {p tpos : Pos} {elts : List Expr} {kk : Nat} {aa : AA} (hm : X.mg "enumerate" = none) (ha : SA X g γ [e] aa) (hg : L2.Gl X "enumerate" := by rfl) (hs : starEach [e] X.env = [(false, eval e X.env)] := by rfl) : SI X g γ (.Tuple elts kk tpos) (.Call (.Name "enumerate" p) [e] [] pos) (iA enm aa) := ⟨fun W tk => by
  obtain ⟨t, pa, q⟩ := ha.out W tk
  refine ⟨_, pi_enumB hg hm pa hs, fun σ env A H mem Q hg he hr hp => ?_⟩
  refine q σ env A H mem _ hg he hr (hp.bnd fun vs A1 H1 ds m s1 r1 rv p1 => ?_)
  unfold enm at p1
  split at p1
  · exact p1.elim
  · rename_i d hd
    cases rv with
    | cons h1 h2 =>
      cases h2
      cases e1 : itD d m with
      | er x m2 => exfalso; unfold itD at e1; split at e1 <;> first | cases e1 | (split at e1 <;> cases e1)
      | no => rw [e1] at p1; exact p1.elim
      | ok pr m2 =>
        rw [e1] at p1
        obtain ⟨ds', gd⟩ := pr
        obtain ⟨rfl, ok0, b, a, rfl, src⟩ := src_of r1 h1 (fun s z => hd s (by rw [z])) e1
        obtain ⟨vs0, hq0, l0⟩ := src A1 H1 _ .refl r1 ok0
        refine ⟨b, a, vs0, rfl, hq0, p1 _ A1 H1 .refl r1 fun i A2 H2 m2 s2 r2 ok => ?_⟩
        obtain ⟨vs, hl, q⟩ := src A2 H2 m2 s2 r2 ok
        refine ⟨fun d hd => ?_, fun hle => ⟨vs, hl, by rw [q.length, enumD_len]⟩⟩
        obtain ⟨x, hx, rfl⟩ := enumD_get hd
        obtain ⟨v, hv, rv⟩ := q.get hx
        refine ⟨⟨vs, v, hl, hv⟩, fun y H3 hy => ?_⟩
        obtain ⟨T, o, z, rfl, hn, ho, rfl, hz⟩ := hy
        have e := hz vs hl
        rw [hv] at e
        cases e
        exact ⟨A2, rep_pair hn ho r2 (.int _) rv⟩
  · exact p1.elim⟩
theorem gdok_app {a b : Gd} {m : Mem} : Gd.Ok (a ++ b) m ↔ a.Ok m ∧ b.Ok m := ⟨fun h => ⟨fun p hp => h p (List.mem_append_left _ hp), fun p hp => h p (List.mem_append_right _ hp)⟩, fun h p hp => (List.mem_append.mp hp).elim (h.1 p) (h.2 p)⟩
theorem si_zip {e e2 : Expr} {p tpos : Pos} {elts : List Expr} {kk : Nat} {aa : AA} (hm : X.mg "zip" = none) (ha : SA X g γ [e, e2] aa) (hg : L2.Gl X "zip" := by rfl) (hs : starEach [e, e2] X.env = (false, eval e X.env) :: starEach [e2] X.env := by rfl) (hpl : (backTo pos (starEach [e2] X.env)).any (·.1) = false := by rfl) :
    SI X g γ (.Tuple elts kk tpos) (.Call (.Name "zip" p) [e, e2] [] pos) (iA zpp aa) := ⟨fun W tk => by
  obtain ⟨t, pa, q⟩ := ha.out W tk
  refine ⟨_, pi_zipB hg hm pa hs hpl, fun σ env A H mem Q hg he hr hp => ?_⟩
  refine q σ env A H mem _ hg he hr (hp.bnd fun vs A1 H1 ds m s1 r1 rv p1 => ?_)
  unfold zpp at p1
  split at p1
  · exact p1.elim
  · exact p1.elim
  · rename_i d1 d2 n1 n2
    cases rv with
    | cons h1 h2 => cases h2 with
      | cons h2 h3 =>
        cases h3
        cases e1 : itD d1 m with
        | er x m2 => exfalso; unfold itD at e1; split at e1 <;> first | cases e1 | (split at e1 <;> cases e1)
        | no => rw [e1] at p1; exact p1.elim
        | ok pr m2 =>
          rw [e1] at p1
          obtain ⟨ds1, gd1⟩ := pr
          obtain ⟨rfl, ok1, b1, a1, rfl, src1⟩ := src_of r1 h1 (fun s z => n1 s (by rw [z])) e1
          dsimp only [R.bind] at p1
          cases e2 : itD d2 m2 with
          | er x m3 => exfalso; unfold itD at e2; split at e2 <;> first | cases e2 | (split at e2 <;> cases e2)
          | no => rw [e2] at p1; exact p1.elim
          | ok pr m3 =>
            rw [e2] at p1
            obtain ⟨ds2, gd2⟩ := pr
            obtain ⟨rfl, ok2, b2, a2, rfl, src2⟩ := src_of r1 h2 (fun s z => n2 s (by rw [z])) e2
            obtain ⟨vs1, hq1, l1⟩ := src1 A1 H1 _ .refl r1 ok1
            obtain ⟨vs2, hq2, l2⟩ := src2 A1 H1 _ .refl r1 ok2
            refine ⟨b1, b2, a1, a2, vs1, vs2, rfl, hq1, hq2, p1 _ A1 H1 .refl r1 fun i A2 H2 m2 s2 r2 ok => ?_⟩
            obtain ⟨k1, k2⟩ := gdok_app.mp ok
            obtain ⟨vs1, hl1, q1⟩ := src1 A2 H2 m2 s2 r2 k1
            obtain ⟨vs2, hl2, q2⟩ := src2 A2 H2 m2 s2 r2 k2
            refine ⟨fun d hd => ?_, fun hle => ⟨vs1, vs2, hl1, hl2, ?_, ?_, ?_⟩⟩
            · obtain ⟨x, y, hx, hy, rfl⟩ := zipD_get hd
              obtain ⟨v, hv, rv⟩ := q1.get hx
              obtain ⟨w, hw, rw'⟩ := q2.get hy
              refine ⟨⟨vs1, vs2, v, w, hl1, hl2, hv, hw⟩, fun z H3 hz => ?_⟩
              obtain ⟨T, o, x', y', rfl, hn, ho, rfl, hx', hy'⟩ := hz
              have e3 := hx' vs1 hl1
              have e4 := hy' vs2 hl2
              rw [hv] at e3
              rw [hw] at e4
              cases e3; cases e4
              exact ⟨A2, rep_pair hn ho r2 rv rw'⟩
            · rw [zipD_len, q1.length]; exact Nat.min_le_left _ _
            · rw [zipD_len, q2.length]; exact Nat.min_le_right _ _
            · dsimp only; rw [zipD_len, q1.length, q2.length]; omega
  · exact p1.elim⟩
end
end Ab
set_option Elab.async false
set_option linter.all false
set_option maxRecDepth 100000
namespace Ab
open PySem L2

/-! ### comprehensions -/
def wipeE (e : Env') : List Nat → Env'
  | [] => e
  | v :: vs => (wipeE e vs).set v none
open Classical in
noncomputable def lcL (tg : AG) (tt : AT) (el : AE) (gd : Gd) (env : Env') (p0 : Nat) : List D → Mem → R Unit
  | [], m => if gd.Ok m then .ok () m else .no
  | d :: r, m => if gd.Ok m then (match tg d env m with
    | .ok e2 m2 => match tt e2 m2 with
      | .ok b m3 => if b = true then (match el e2 m3 with
        | .ok x m4 => match m4[p0]? with
          | some (.lst acc) => if acc.length < sizeLine then lcL tg tt el gd env p0 r (m4.set p0 (.lst (acc ++ [x]))) else .no
          | _ => .no
        | _ => .no) else lcL tg tt el gd env p0 r m3
      | _ => .no
    | _ => .no) else .no
noncomputable def eLc (it : AI) (tg : AG) (tt : AT) (el : AE) (vs : List Nat) : AE := fun e m => (it e m).bind fun p m =>
  match lcL tg tt el p.2 (wipeE e vs) m.length p.1 (m ++ [.lst []]) with
  | .ok _ m2 => .ok (.ref m.length) m2
  | _ => .no
def tYesA : AT := fun _ m => .ok true m
structure STs (X : Cx) (g : Glb) (γ : Gam) (es : List Expr) (a : AT) : Prop where
  out : ∀ W : WX, Takes X W → ∃ t : TT, PTs X es t ∧ ∀ σ env A H mem Q, γ.Ok A → EnvR X.K g A H σ env → Rel X.K g A H mem → Post X.K g (fun _ _ => Eq) A H (a env mem) Q (fun c d H' => W c d σ H') → t σ H Q
theorem STs.uni {X : Cx} {g : Glb} {γ : Gam} {e : List Expr} {a : AT} (h : STs X g γ e a) {W : WX} (tk : Takes X W) : PTs X e (rdT X.K g γ a W) := ⟨fun pins s σ H Q I hq => by
  obtain ⟨t, p, q⟩ := h.out W tk
  obtain ⟨env, A, mem, h1, h2, h3, h4⟩ := hq
  exact p.run pins s σ H Q I (q σ env A H mem Q h1 h2 h3 h4)⟩
theorem sts_nil {X : Cx} {g : Glb} {γ : Gam} : STs X g γ [] tYesA := ⟨fun W tk => ⟨_, pts_nil, fun σ env A H mem Q hg he hr hp => hp true A H .refl hr rfl⟩⟩
theorem sts_one {X : Cx} {g : Glb} {γ : Gam} {c : Expr} {a : AT} (h : ST X g γ c a) : STs X g γ [c] a := ⟨fun W tk => by obtain ⟨t, p, q⟩ := h.out W tk; exact ⟨_, pts_one p, q⟩⟩
theorem wipeE_r {K : PySem.W.Frag} {g : Glb} {A : List Addr} {H : Hp} {σ : L2.St} {env : Env'} (e : EnvR K g A H σ env) : ∀ vs : List Nat, EnvR K g A H (wipe σ vs) (wipeE env vs)
  | [] => e
  | v :: vs => by
    unfold wipe wipeE
    exact (wipeE_r e vs).drop v none
theorem wipe_get {σ : L2.St} {i : Nat} : ∀ {vs : List Nat}, i ∈ vs → i < σ.length → (wipe σ vs)[i]? = some none
  | [], h, _ => by cases h
  | v :: vs, h, hl => by
    unfold wipe
    by_cases e : v = i
    · subst e
      rw [List.getElem?_set_self (by rw [wipe_length]; exact hl)]
    · rw [List.getElem?_set_ne e]
      exact wipe_get (by rcases List.mem_cons.mp h with h | h; exact absurd h.symm e; exact h) hl
theorem wipe_frm {σ σ2 : L2.St} {vs : List Nat} (f : Frm vs (wipe σ vs) σ2) : wipe σ2 vs = wipe σ vs := by
  have hl : σ2.length = σ.length := by rw [f.1, wipe_length]
  refine List.ext_getElem? fun i => ?_
  by_cases hi : i ∈ vs
  · by_cases hlt : i < σ.length
    · rw [wipe_get hi hlt, wipe_get hi (by rw [hl]; exact hlt)]
    · rw [List.getElem?_eq_none (by rw [wipe_length]; omega), List.getElem?_eq_none (by rw [wipe_length]; omega)]
  · rw [wipe_out hi]
    rw [f.2 i hi]
section
variable {X : Cx} {g : Glb} {γ : Gam} {pos : Pos}
/-- the loop of a comprehension, by its reading -/
theorem lc_snd {ws : List Nat} {gd : Gd} {tg : AG} {tt : AT} {el : AE} {items : List D} {J : It} {A1 : List Addr} {H1 : Hp} {m1 : Mem} {σ : L2.St} {env : Env'} {Q : VK} {Da : Addr} {m2 : Mem}
    (hg : γ.Ok A1) (he : EnvR X.K g A1 H1 σ env) (itr : ItR X.K g A1 H1 J (items, gd)) (hr : Rel X.K g A1 H1 m1) (hD : H1 Da = none)
    (hl : lcL tg tt el gd (wipeE env ws) m1.length items (m1 ++ [.lst []]) = .ok () m2)
    (hQ : ∀ v A' H', Stab X.K A1 H1 A' H' → Rel X.K g A' H' m2 → Rep X.K g A' H' v (.ref m1.length) → Q v H') :
    ∃ W : Nat → Nat → Hp → Prop, (∃ m, W 0 m (upd H1 Da (.lst []))) ∧ ∀ i m H, W i m H →
      (J.stop i H ∧ Q (.ref Da) H) ∨ (J.go i H ∧ ∃ Nx : Hp → Prop, (∀ H', Nx H' → ∃ m', m' < m ∧ W (i + 1) m' H') ∧ ∀ x H', J.yld i H x H' → rdG X.K g γ ws tg (fun _ _ _ _ => False) x (wipe σ ws) H' fun σ2 H2 => wipe σ2 ws = wipe σ ws ∧ rdT X.K g γ tt (fun _ _ _ _ => False) σ2 H2 fun b H3 =>
        if b = true then rdE X.K g γ el (fun _ _ _ _ => False) σ2 H3 fun y H4 => ∃ acc, H4 Da = some (.lst acc) ∧ acc.length < sizeLine ∧ Nx (upd H4 Da (.lst (acc ++ [y]))) else Nx H3) := by
  obtain ⟨s0, r0, e0⟩ := hr.alloc (o := .lst []) (c := .lst []) hD fun s => ⟨[], upd_same, .nil⟩
  refine ⟨fun i n H => n = items.length - i ∧ i ≤ items.length ∧ ∃ A mem, Stab X.K A1 H1 A H ∧ Rel X.K g A H mem ∧ A[m1.length]? = some Da ∧ lcL tg tt el gd (wipeE env ws) m1.length (items.drop i) mem = .ok () m2, ⟨items.length, by simp, Nat.zero_le _, _, _, s0, r0, e0, hl⟩, ?_⟩
  rintro i n H ⟨rfl, hi, A, mem, s, hr, hDA, hl⟩
  by_cases hlt : i < items.length
  · have hd : items.drop i = items[i] :: items.drop (i + 1) := List.drop_eq_getElem_cons hlt
    rw [hd] at hl
    unfold lcL at hl
    split at hl
    · rename_i ok
      obtain ⟨go, _⟩ := itr i A H mem s hr ok
      obtain ⟨go, yl⟩ := go items[i] (List.getElem?_eq_getElem hlt)
      refine .inr ⟨go, fun H' => ∃ A mem, Stab X.K A1 H1 A H' ∧ Rel X.K g A H' mem ∧ A[m1.length]? = some Da ∧ lcL tg tt el gd (wipeE env ws) m1.length (items.drop (i + 1)) mem = .ok () m2, fun H' h => ⟨items.length - (i + 1), by omega, rfl, hlt, h⟩, fun x H2 hy => ?_⟩
      obtain ⟨A2, s2, r2, rx⟩ := yl x H2 hy
      have st2 := s.trans s2
      refine ⟨items[i], wipeE env ws, A2, mem, hg.pre st2.pre, wipeE_r (he.stab st2) ws, r2, rx, ?_⟩
      cases e1 : tg items[i] (wipeE env ws) mem with
      | er x m => rw [e1] at hl; cases hl
      | no => rw [e1] at hl; cases hl
      | ok e3 m3 =>
        rw [e1] at hl
        dsimp only at hl
        intro σ3 A3 H3 s3 r3 ⟨er3, fr3⟩
        have st3 := st2.trans s3
        refine ⟨wipe_frm fr3, e3, A3, m3, hg.pre st3.pre, er3, r3, ?_⟩
        cases e2 : tt e3 m3 with
        | er x m => rw [e2] at hl; cases hl
        | no => rw [e2] at hl; cases hl
        | ok b m4 =>
          rw [e2] at hl
          dsimp only at hl
          intro b' A4 H4 s4 r4 eb
          subst eb
          have st4 := st3.trans s4
          cases b' with
          | false =>
            rw [if_neg Bool.false_ne_true] at hl ⊢
            exact ⟨A4, m4, st4, r4, pre_get (s2.trans (s3.trans s4)).pre hDA, hl⟩
          | true =>
            rw [if_pos rfl] at hl
            rw [if_pos rfl]
            refine ⟨e3, A4, m4, hg.pre st4.pre, er3.stab s4, r4, ?_⟩
            cases e5 : el e3 m4 with
            | er x m => rw [e5] at hl; cases hl
            | no => rw [e5] at hl; cases hl
            | ok y m5 =>
              rw [e5] at hl
              dsimp only at hl
              intro v A5 H5 s5 r5 rv
              have st5 := st4.trans s5
              have hD5 := pre_get (s2.trans (s3.trans (s4.trans s5))).pre hDA
              split at hl
              · rename_i acc hm
                split at hl
                · rename_i hz
                  obtain ⟨vs, ev, q⟩ := r5.cell _ _ _ hD5 hm
                  refine ⟨vs, ev, by rw [q.length]; exact hz, ?_⟩
                  obtain ⟨s6, r6⟩ := r5.write (o' := .lst (vs ++ [v])) (c' := .lst (acc ++ [y])) hm hD5 rfl rfl fun s => ⟨_, upd_same, (q.stab s).append (.cons (rv.stab s) .nil)⟩
                  exact ⟨A5, _, st5.trans s6, r6, hD5, hl⟩
                · cases hl
              · cases hl
    · cases hl
  · have e : i = items.length := by omega
    subst e
    rw [List.drop_length] at hl
    unfold lcL at hl
    split at hl
    · rename_i ok
      obtain ⟨_, st⟩ := itr items.length A H mem s hr ok
      cases hl
      exact .inl ⟨st (Nat.le_refl _), hQ _ A H s hr (.ref hDA)⟩
    · cases hl
theorem se_lc {ws : List Nat} {elt tg iter : Expr} {ifs : List Expr} {scope : Scope} {own : List (Str × Nat)} {ai : AI} {t : AG} {tt : AT} {el : AE} (hc : X.calm = true) (hN : X.N.Nodup) (hi : SI X g γ tg iter ai) (ok : BlkOk X.N X.env.scope scope own) (hw : own.map (·.2) = ws)
    (hg : ∀ (s : Shared) (H : Hp) (C : Addr) (cl : List (Str × Addr)) (fp : List Addr), SG (X.blk s H scope (compEnvC scope cl C X.env) fp) g γ ws tg t) (ht : ∀ (s : Shared) (H : Hp) (C : Addr) (cl : List (Str × Addr)) (fp : List Addr), STs (X.blk s H scope (compEnvC scope cl C X.env) fp) g γ ifs tt)
    (he : ∀ (s : Shared) (H : Hp) (C : Addr) (cl : List (Str × Addr)) (fp : List Addr), SE (X.blk s H scope (compEnvC scope cl C X.env) fp) g γ elt el) (hs : ∀ x, foldedSetIterable iter X.env x = pure x := by intro _; rfl) :
    SE X g γ (.ListComp elt [⟨tg, iter, ifs, 0⟩] scope pos) (eLc ai t tt el ws) := ⟨fun W tk => by
  subst hw
  obtain ⟨wi, pi, qi⟩ := hi.out W tk
  refine ⟨_, pe_lc (g := rdG X.K g γ (own.map (·.2)) t (fun _ _ _ _ => False)) (tt := rdT X.K g γ tt (fun _ _ _ _ => False)) (te := rdE X.K g γ el (fun _ _ _ _ => False)) hc hN pi ok (fun s H C cl fp => (hg s H C cl fp).uni takes0) (fun s H C cl fp => (ht s H C cl fp).uni takes0) (fun s H C cl fp => (he s H C cl fp).uni takes0) hs, fun σ env A H mem Q hgm her hr hp => ?_⟩
  refine qi σ env A H mem _ hgm her hr (hp.bnd fun J A1 H1 p m s1 r1 itr p1 => ?_)
  intro Da hD
  obtain ⟨items, gd⟩ := p
  cases e : lcL t tt el gd (wipeE env (own.map (·.2))) m.length items (m ++ [.lst []]) with
  | ok u m2 =>
    dsimp only at p1
    rw [e] at p1
    exact lc_snd (hgm.pre s1.pre) (her.stab s1) itr r1 hD e p1
  | er x m2 => dsimp only at p1; rw [e] at p1; exact p1.elim
  | no => dsimp only at p1; rw [e] at p1; exact p1.elim⟩
theorem ss_lc {ws : List Nat} {i : Nat} {y : Str} {py : Pos} {elt tg iter : Expr} {ifs : List Expr} {scope : Scope} {own : List (Str × Nat)} {spos : Pos} {ai : AI} {t : AG} {tt : AT} {el : AE} (hc : X.calm = true) (hN : X.N.Nodup) (hi : SI X g γ tg iter ai) (ok : BlkOk X.N X.env.scope scope own) (hw : own.map (·.2) = ws)
    (hg : ∀ (s : Shared) (H : Hp) (C : Addr) (cl : List (Str × Addr)) (fp : List Addr), SG (X.blk s H scope (compEnvC scope cl C X.env) fp) g γ ws tg t) (ht : ∀ (s : Shared) (H : Hp) (C : Addr) (cl : List (Str × Addr)) (fp : List Addr), STs (X.blk s H scope (compEnvC scope cl C X.env) fp) g γ ifs tt)
    (he : ∀ (s : Shared) (H : Hp) (C : Addr) (cl : List (Str × Addr)) (fp : List Addr), SE (X.blk s H scope (compEnvC scope cl C X.env) fp) g γ elt el)
    (hy : X.N[i]? = some y := by rfl) (hyl : X.env.scope.names.lookup y = some .local := by rfl)
    (hsw : swapsWith (.ListComp elt [⟨tg, iter, ifs, 0⟩] scope pos) (some (.Name y py)) spos.line X.env = pure true := by exact sw_true rfl rfl rfl (by decide +kernel)) (hs : ∀ x, foldedSetIterable iter X.env x = pure x := by intro _; rfl) :
    SS X g γ (.Assign [.Name y py] (.ListComp elt [⟨tg, iter, ifs, 0⟩] scope pos) spos) (sAsg (eLc ai t tt el ws) (gN i)) := ⟨fun W tk => by
  subst hw
  obtain ⟨wi, pi, qi⟩ := hi.out W tk
  refine ⟨_, ps_setLc (g := rdG X.K g γ (own.map (·.2)) t (fun _ _ _ _ => False)) (tt := rdT X.K g γ tt (fun _ _ _ _ => False)) (te := rdE X.K g γ el (fun _ _ _ _ => False)) hc hN hy hyl hsw pi ok (fun s H C cl fp => (hg s H C cl fp).uni takes0) (fun s H C cl fp => (ht s H C cl fp).uni takes0) (fun s H C cl fp => (he s H C cl fp).uni takes0) hs, fun σ env A H mem E hgm her hr hp => ?_⟩
  have hp2 : PostS X.K g A H ((ai env mem).o env fun p m => (match lcL t tt el p.2 (wipeE env (own.map (·.2))) m.length p.1 (m ++ [.lst []]) with
    | .ok _ m2 => .nx (env.set i (some (.ref m.length))) m2
    | _ => .no)) E W := by
    have e : sAsg (eLc ai t tt el (own.map (·.2))) (gN i) env mem = ((ai env mem).o env fun p m => (match lcL t tt el p.2 (wipeE env (own.map (·.2))) m.length p.1 (m ++ [.lst []]) with
      | .ok _ m2 => .nx (env.set i (some (.ref m.length))) m2
      | _ => .no)) := by
      unfold sAsg eLc gN
      cases ai env mem with
      | ok p m =>
        dsimp only [R.o, R.bind]
        cases lcL t tt el p.2 (wipeE env (own.map (·.2))) m.length p.1 (m ++ [.lst []]) <;> rfl
      | er x m => rfl
      | no => rfl
    rw [← e]; exact hp
  refine qi σ env A H mem _ hgm her hr (PostS.of her hp2 fun J A1 H1 p m s1 r1 itr p1 => ?_)
  intro Da hD
  obtain ⟨items, gd⟩ := p
  cases e : lcL t tt el gd (wipeE env (own.map (·.2))) m.length items (m ++ [.lst []]) with
  | ok u m2 =>
    dsimp only at p1
    rw [e] at p1
    refine lc_snd (Q := fun v H' => gName i v σ H' E.nx) (hgm.pre s1.pre) (her.stab s1) itr r1 hD e fun v A' H' s' r' rv => ?_
    exact p1 _ A' H' s' r' ((her.stab (s1.trans s')).set i rv)
  | er x m2 => dsimp only at p1; rw [e] at p1; exact p1.elim
  | no => dsimp only at p1; rw [e] at p1; exact p1.elim⟩
end
end Ab
set_option Elab.async false
set_option linter.all false
set_option maxRecDepth 100000
namespace PyProof.Rows
open PySem
section
variable {prog : Program} {w : World} {A : Around} {E : Value → Shared → Prop} {s : Shared}
theorem collect_tup {l : Addr} {vs : List Value} {Q : List Value → Shared → Prop} (hl : s.heap.IsTuple l vs.toArray)
    (h : Q vs { s with heap := (s.heap.push (seqObj "list" #[] 0)).update s.heap.objs.size (Obj.mapSeq (· ++ vs.toArray)) }) (hsz : vs.length ≤ sizeLine := by size_fits) :
    wpAny (model prog w) A (collect (.ref l)) Q E s := by
  obtain ⟨o, ho, hc, n, hd⟩ := id hl
  unfold collect
  refine wpAny_bind (wpAny_runValue (codeAny_builtin entry_proto_collect' ?_))
  show wpAny _ _ (do again (.builtin "list.__iadd__" ⟨[← newList [], .ref l], []⟩)) _ _ s
  refine wpAny_bind (wpAny_newList (wpAny_pure ⟨Code.quiet_builtin _ (by decide +kernel), codeAny_builtin entry_list_iadd' ?_⟩))
  show wpAny _ _ (Builtin.List.listExtendWith (.ref s.heap.objs.size) (.ref l) (.ref s.heap.objs.size)) _ _ { s with heap := s.heap.push (seqObj "list" #[] 0) }
  unfold Builtin.List.listExtendWith
  have ho2 : (s.heap.push (seqObj "list" #[] 0)).get? l = some o := Heap.get?_push_of_some _ ho
  refine wpAny_bind (wpAny_typeOf (T := "tuple") ⟨o, ho2, hc⟩ ?_)
  have ht : (Value.type "tuple" == Value.type "tuple") = true := by rfl
  rw [if_pos (by rw [ht]; simp)]
  refine wpAny_bind (listItems_at ho2 hd ?_)
  refine wpAny_bind (listItems_at (xs := #[]) (n := 0) (Heap.get?_push_size _ rfl) rfl ?_)
  rw [if_neg (by simp)]
  refine wpAny_bind (listUpdate_at (xs := #[]) (n := 0) (Heap.get?_push_size _ rfl) rfl ?_ (Nat.zero_le _) (by show (#[] ++ vs.toArray).size ≤ sizeLine + 1; simp only [Array.size_append, List.size_toArray, List.length_nil]; omega))
  refine wpAny_pure ?_
  show wpAny (model prog w) A (do
      let o2 ← load s.heap.objs.size
      match o2.data with
      | .seq xs _ => pure xs.toList
      | _ => unsupported "internal:collect") Q E { s with heap := (s.heap.push (seqObj "list" #[] 0)).update s.heap.objs.size (Obj.mapSeq (· ++ vs.toArray)) }
  refine wpAny_bind (wpAny_load (get?_update_seq (Heap.get?_push_size _ rfl) _) ?_)
  show wpAny _ _ (pure ((#[] : Array Value) ++ vs.toArray).toList) Q E _
  rw [show ((#[] : Array Value) ++ vs.toArray).toList = vs by simp]
  exact wpAny_pure h
end
end PyProof.Rows
namespace SrtO
open PySem PyProof.Rows
section
variable {prog : Program} {w : World} {A : Around} {E : Value → Shared → Prop} {s : Shared}
theorem sorted_ordT {l : Addr} {vs : List Value} {ltv : Value → Value → Bool} {Q : Value → Shared → Prop} (O : Swo ltv) (hl : s.heap.IsTuple l vs.toArray) (hz : vs.length ≤ sizeLine)
    (hS : 2 ≤ vs.length → ∀ (h₁ : Heap) (a : Addr), h₁.get? a = some (seqObj "list" vs.toArray 0) → (∀ b o, s.heap.get? b = some o → b ≠ a ∧ h₁.get? b = some o) → SortableO prog w A.in1.in1 { s with heap := h₁ } a vs ltv)
    (h : ∀ out : List Value, Srtd ltv out → Stb ltv out vs → Q (.ref (s.heap.objs.size + 1)) { s with heap := sortedAll s.heap vs out.toArray }) :
    wpAny (model prog w) A (call (.builtin "sorted") [.ref l]) Q E s := by
  refine Calls.call_function_entry kind_sorted plain_sorted entry_sorted (args_sorted1 _) ?_
  unfold Builtin.«sorted»
  refine wpAny_bind (m := checkCount "sorted" 1 1 _) (wpAny_pure ?_)
  refine wpAny_bind (collect_tup hl ?_ hz)
  refine wpAny_bind (wpAny_newList ?_ hz)
  have hsz : ((s.heap.push (seqObj "list" #[] 0)).update s.heap.objs.size (Obj.mapSeq (· ++ vs.toArray))).objs.size = s.heap.objs.size + 1 := by
    rw [Heap.size_update, size_push']
  have hoL : (((s.heap.push (seqObj "list" #[] 0)).update s.heap.objs.size (Obj.mapSeq (· ++ vs.toArray))).push (seqObj "list" vs.toArray 0)).get? (s.heap.objs.size + 1) = some (seqObj "list" vs.toArray 0) := by
    rw [← hsz]; exact Heap.get?_push_size _ rfl
  have keep : ∀ b o, s.heap.get? b = some o → b ≠ s.heap.objs.size + 1 ∧ (((s.heap.push (seqObj "list" #[] 0)).update s.heap.objs.size (Obj.mapSeq (· ++ vs.toArray))).push (seqObj "list" vs.toArray 0)).get? b = some o := fun b o q => by
    have hlt : b < s.heap.objs.size := Heap.lt_size q
    refine ⟨Nat.ne_of_lt (Nat.lt_succ_of_lt hlt), Heap.get?_push_of_some _ ?_⟩
    rw [Heap.get?_update_ne _ _ _ _ (Nat.ne_of_lt hlt)]
    exact Heap.get?_push_of_some _ q
  show wpAny _ _ _ _ _ { s with heap := ((s.heap.push (seqObj "list" #[] 0)).update s.heap.objs.size (Obj.mapSeq (· ++ vs.toArray))).push (seqObj "list" vs.toArray 0) }
  rw [hsz]
  refine wpAny_bind (wpAny_holding (wpAny_call_entry slot_list_sort ⟨_, hoL, rfl⟩ entry_list_sort (list_sort_ord O hoL hz (fun h2 => hS h2 _ _ hoL keep) fun out hs hb => ⟨_, rfl, ?_⟩) (args_list_sort _)))
  exact wpAny_pure ⟨_, rfl, h out hs hb⟩
end
end SrtO
namespace L2
open PySem PySem.Spec PyProof.Rows PySem.W
section
variable {X : Cx}
/-- sorted(xs), ints, a list or a tuple -/
def rSortedB (K : PySem.W.Frag) : List V → Hp → VK → Prop := fun vs H Q => ∃ (b : Bool) (a : Addr) (ns : List Int), vs = [V.ref a] ∧ SqB K b H a (ns.map V.int) ∧
  ∀ (ns' : List Int) (p : Addr), ns'.Perm ns → ns'.Pairwise (· ≤ ·) → H p = none → Q (.ref p) (upd H p (.lst (ns'.map V.int)))
theorem cr_sortedB : CallR X (.builtin "sorted") (rSortedB X.K) := by
  intro pins s σ H vs us Q I r h
  obtain ⟨b, a, ns, rfl, hs, q⟩ := h
  cases b with
  | false => exact cr_sortedI pins s σ H _ us Q I r ⟨a, ns, rfl, hs, q⟩
  | true =>
    obtain ⟨its, rv, hl, hz⟩ := I.tuple hs
    rw [Vals.ref1 r]
    have hi := rv.ints
    refine SrtO.sorted_ordT SrtO.swo_int hl (by rw [← rv.length]; exact hz) (fun h2 h₁ a' _ _ => SrtO.ints_sortable hi h2) fun out h1 h2 => ?_
    obtain ⟨k1, k2, k3⟩ := SrtO.ints_out hi h1 h2
    obtain ⟨ep, he'⟩ := PyProof.Rows.sortedAll_at s.heap its out.toArray
    have hlen : ((out.map SrtO.iv).map V.int).length ≤ sizeLine := by
      rw [List.length_map, k2.length_eq]
      rw [List.length_map] at hz
      exact hz
    exact ⟨.ref _, upd H (s.heap.objs.size + 1) (.lst ((out.map SrtO.iv).map V.int)), I.laid (t' := s.toks) (fun _ _ => PyProof.Rows.sortedAll_old) (Nat.le_succ _) ⟨hlen, out, ep, vals_of_ints k1, he'⟩, rfl, q _ _ k2 k3 (I.hok.fresh (Nat.le_succ _))⟩
/-- a list's, a tuple's data -/
theorem SqB.reads {b : Bool} {pins : List (Addr × Obj)} {σ : St} {H : Hp} {s : Shared} {a : Addr} {xs : List V} {ds : List PyData} (I : Inv X pins σ H s) (h : SqB X.K b H a xs) (hd : DpAll X.K H xs ds) : ∃ (its : List Value) (as : List Addr), Vals xs its ∧ HasB b s.heap a its.toArray ∧ ReadsAll s.heap its ds as := by
  obtain ⟨its, rv, p, z, _⟩ := h.get I
  obtain ⟨as, q⟩ := Dp.readsAll I ds _ its hd rv
  exact ⟨its, as, rv, p, q⟩
theorem depth_all0 : ∀ xs : List Int, PyData.depthAll (xs.map .int) = 0
  | [] => rfl
  | n :: ns => by
    rw [List.map_cons]
    show max (PyData.depth (.int n)) (PyData.depthAll (ns.map .int)) = 0
    rw [depth_all0 ns]
    rfl
theorem ints_alike : ∀ ns : List Int, AlikeAll (ns.map PyData.int) := fun ns => ⟨fun x hx y hy => by
  obtain ⟨i, _, rfl⟩ := List.mem_map.mp hx
  obtain ⟨j, _, rfl⟩ := List.mem_map.mp hy
  rfl, fun x hx e => by
  obtain ⟨i, _, rfl⟩ := List.mem_map.mp hx
  cases e⟩
theorem dpAll_ints {K : PySem.W.Frag} {H : Hp} : ∀ ns : List Int, DpAll K H (ns.map V.int) (ns.map PyData.int)
  | [] => .nil
  | n :: ns => .cons (.int n) (dpAll_ints ns)
def rMinB (K : PySem.W.Frag) (f : Int → List Int → Int) : List V → Hp → VK → Prop := fun vs H Q => ∃ (b : Bool) (a : Addr) (n : Int) (ns : List Int), vs = [V.ref a] ∧ SqB K b H a ((n :: ns).map V.int) ∧ Q (.int (f n ns)) H
theorem cr_minB (hc : X.calm = true) (hu : X.A.units + 64 < cLine) : CallR X (.builtin "min") (rMinB X.K fun n ns => ns.foldl min n) := by
  intro pins s σ H vs us Q I r h
  obtain ⟨b, a, n, ns, rfl, hs, q⟩ := h
  obtain ⟨its, as, rv, p, rd⟩ := hs.reads I (dpAll_ints (n :: ns))
  rw [Vals.ref1 r]
  have hd : PyData.depthAll (PyData.int n :: ns.map PyData.int) = 0 := depth_all0 (n :: ns)
  have fin : ∀ (i : Nat) v h' tk bs, its.toArray[i]? = some v → Reads h' v (minD (.int n) (ns.map .int)) bs → (∀ b o, s.heap.get? b = some o → h'.get? b = some o) → EP X pins σ Q v { s with heap := h', toks := tk } := fun i v h' tk bs _ hr hk => by
    rw [minD_ints] at hr
    cases hr with
    | int i t => exact ⟨.int _, H, I.kept (t' := tk) hk, ⟨t, rfl⟩, q⟩
  cases b with
  | true => exact min_tuple_data (I.ok.hd hc) p rd (ints_alike (n :: ns)) (by rw [hd]; omega) fin
  | false => exact min_list_data (I.ok.hd hc) p rd (ints_alike (n :: ns)) (by rw [hd]; omega) fin
theorem cr_maxB (hc : X.calm = true) (hu : X.A.units + 64 < cLine) : CallR X (.builtin "max") (rMinB X.K fun n ns => ns.foldl max n) := by
  intro pins s σ H vs us Q I r h
  obtain ⟨b, a, n, ns, rfl, hs, q⟩ := h
  obtain ⟨its, as, rv, p, rd⟩ := hs.reads I (dpAll_ints (n :: ns))
  rw [Vals.ref1 r]
  have hd : PyData.depthAll (PyData.int n :: ns.map PyData.int) = 0 := depth_all0 (n :: ns)
  have fin : ∀ (i : Nat) v h' tk bs, its.toArray[i]? = some v → Reads h' v (maxD (.int n) (ns.map .int)) bs → (∀ b o, s.heap.get? b = some o → h'.get? b = some o) → EP X pins σ Q v { s with heap := h', toks := tk } := fun i v h' tk bs _ hr hk => by
    rw [maxD_ints] at hr
    cases hr with
    | int i t => exact ⟨.int _, H, I.kept (t' := tk) hk, ⟨t, rfl⟩, q⟩
  cases b with
  | true => exact max_tuple_data (I.ok.hd hc) p rd (ints_alike (n :: ns)) (by rw [hd]; omega) fin
  | false => exact max_list_data (I.ok.hd hc) p rd (ints_alike (n :: ns)) (by rw [hd]; omega) fin
/-- t.index(x), ints -/
theorem mt_tupIndex : MtR X "tuple.index" (fun x xs H Q => ∃ (a : Addr) (ns : List Int) (k : Int), x = .ref a ∧ xs = [.int k] ∧ SqT X.K H a (ns.map V.int) ∧ k ∈ ns ∧ Q (.int (ns.idxOf k : Nat)) H) := by
  intro pins s σ H x xs v us Q I rx rxs h
  obtain ⟨a, ns, k, rfl, rfl, hs, hk, q⟩ := h
  cases rx
  obtain ⟨u, rfl, t, rfl⟩ := rxs.one
  obtain ⟨its, rv, p, _⟩ := I.tuple hs
  have hlen : its.length = ns.length := by rw [← rv.length, List.length_map]
  refine SeqAt.call_tuple_index (ks := ns) (k := k) p ⟨hlen, fun j h1 h2 => ?_⟩ hk ⟨.int _, H, I.tok _, ⟨_, rfl⟩, q⟩
  obtain ⟨u, hu, ru⟩ := rv.get (i := j) (x := .int ns[j]) (by rw [List.getElem?_map, List.getElem?_eq_getElem h2]; rfl)
  obtain ⟨tu, rfl⟩ := ru
  rw [List.getElem?_eq_getElem h1] at hu
  rw [Option.some.inj hu]
  have e : (ns[j] == k) = decide (ns[j] = k) := by
    by_cases z : ns[j] = k
    · simp [z]
    · simp [z]
  rw [← e]
  exact SeqAt.EqAt.int_int ns[j] tu k t
/-- xs.count(x), data -/
theorem mt_countD (hu : X.A.units + 65 < cLine) : MtR X "list.count" (fun x xs H Q => ∃ (a : Addr) (y : V) (d : PyData) (ds : List PyData), x = V.ref a ∧ xs = [y] ∧ Dp X.K H (V.ref a) (.list ds) ∧ Dp X.K H y d ∧
    SeqAt.shaped (.list ds) = true ∧ SeqAt.shaped d = true ∧ Q (.int (ds.countP fun z => PyData.eqv z d : Nat)) H) := by
  intro pins s σ H x xs v us Q I rx rxs h
  obtain ⟨a, y, d, ds, rfl, rfl, hl, hy, sl, sd, q⟩ := h
  cases rx
  obtain ⟨uy, rfl, ry⟩ := rxs.one
  obtain ⟨bs, r1⟩ := Dp.reads I d y uy hy ry
  have hxs : PyData.canLayAll0 ds = true := SeqAt.canLay_of_shaped sl
  have hroom : X.A.units + 1 + min (PyData.depthAll ds) d.depth < cLine := room_in_shaped sd hu
  cases hl with
  | lst hs ha =>
    obtain ⟨its, rv, ⟨⟨cls, dd, data, sls⟩, n, ho, hc, hdn, hdt⟩, hlen⟩ := I.list hs
    simp only at hc hdt
    subst hc hdt
    obtain ⟨as, h4⟩ := Dp.readsAll I ds _ its ha rv
    have hmap : its.map (SeqAt.readOf s.heap) = ds := SeqAt.readsAll_map ds its as hxs h4
    refine call_meets PySem.F.slot_list_count ⟨_, ho, rfl⟩ PySem.F.entry_list_count (PySem.F.args_list_count_2 _ _)
      (SeqAt.list_countAt a its.toArray n dd sls uy (fun u => PyData.eqv (SeqAt.readOf s.heap u) d)) ⟨ho, SeqAt.items_eqAt (vs := its.toArray) (show ReadsAll s.heap its.toArray.toList ds as from h4) r1 hxs (SeqAt.canLay_of_shaped sd) hroom, ?_⟩
    have e : its.toArray.toList.countP (fun u => PyData.eqv (SeqAt.readOf s.heap u) d) = ds.countP fun z => PyData.eqv z d := by
      rw [← hmap, List.countP_map]
      rfl
    rw [e]
    exact ⟨.int _, H, I.tok _, ⟨_, rfl⟩, q⟩
end
end L2
set_option Elab.async false
set_option linter.all false
set_option maxRecDepth 100000
namespace Ab
open PySem PySem.Spec PyProof.Rows L2

/-! ### defs -/
def spOf (K : PySem.W.Frag) (g : Glb) (n : Nat) (af : AF) : Sp := fun vs H Q E => vs.length = n ∧ ∃ A mem ds, Rel K g A H mem ∧ RepL K g A H vs ds ∧ Post K g (Rep K g) A H (af ds mem) Q E
def O.f (o : O) : R D := match o with
  | .nx _ m => .ok .non m
  | .rt d m => .ok d m
  | .er x _ m => .er x m
  | _ => .no
/-- a def: its parameters come first among its n slots -/
def afOf (n : Nat) (as : AS) : AF := fun ds m => (as (ds.map some ++ List.replicate (n - ds.length) none) m).f
structure FnA (P : Program) (w : World) (K : PySem.W.Frag) (mg : Str → Option Value) (base : Heap) (g : Glb) (k : Nat) (x : Str) (n : Nat) (af : AF) : Prop where
  ex : ∃ f fd ps, mg x = some (.ref f) ∧ g.fa x = f ∧ PySem.W.keepIn K (.ref f) = true ∧ Binds K fd ps [] ∧ FnOk P w K mg base (L2.CX P w) k f fd ps (spOf K g n af)
theorem FnA.mono {P : Program} {w : World} {K : PySem.W.Frag} {mg : Str → Option Value} {base : Heap} {g : Glb} {j k : Nat} {x : Str} {n : Nat} {af : AF} (F : FnA P w K mg base g j x n af) (h : j ≤ k) : FnA P w K mg base g k x n af := by
  obtain ⟨f, fd, ps, h1, h2, h3, h4, h5⟩ := F.ex
  exact ⟨f, fd, ps, h1, h2, h3, h4, h5.mono h⟩
section
variable {P : Program} {w : World} {K : PySem.W.Frag} {mg : Str → Option Value} {base : Heap} {g : Glb}
theorem env_start {A : List Addr} {H : Hp} {vs : List V} {ds : List D} {N : List Str} (r : RepL K g A H vs ds) : EnvR K g A H (L2.start N vs) (ds.map some ++ List.replicate (N.length - ds.length) none) := by
  unfold L2.start
  refine ⟨by simp [r.length], fun i d h => ?_⟩
  have hi : i < ds.length := by
    by_cases z : i < ds.length
    · exact z
    · rw [List.getElem?_append_right (by simpa using z), List.getElem?_replicate] at h
      split at h <;> cases h
  rw [List.getElem?_append_left (by simpa using hi), List.getElem?_map] at h
  cases e : ds[i]? with
  | none => rw [e] at h; cases h
  | some x =>
    rw [e] at h
    cases h
    obtain ⟨v, hv, rv⟩ := r.get e
    exact ⟨v, by rw [List.getElem?_append_left (by rw [List.length_map, r.length]; exact hi), List.getElem?_map, hv]; rfl, rv⟩
/-- a def's body, read, gives its promise -/
theorem fn_okA {x qual : Str} {st : Stmt} {f : Addr} {fd : FuncData} {N ps : List Str} {k n : Nat} {as : AS} (F : Fun K x qual st f fd) (S : FnScope N ps (defScope st)) (hn : ps.length = n)
    (hb : ∀ (cdv : Value) (A : Around) (outer : List Env) (s : Shared) (H : Hp) (E : XK), Room k (A.deeper (envOfC qual (defScope st) s.heap.objs.size f cdv)) → SSs (cxOf (L2.CX P w) P w K mg base N qual (defScope st) f cdv A outer s H E) g [] (defBody st) as) :
    FnOk P w K mg base (L2.CX P w) (k + 1) f fd ps (spOf K g n (afOf N.length as)) := by
  refine F.okX S (fun vs H Q E h => by rw [hn]; exact h.1) fun cdv A outer s H vs Q E hr h => ?_
  obtain ⟨hl, A', mem, ds, R, r, p⟩ := h
  obtain ⟨t, pt, q⟩ := (hb cdv A outer s H E hr).out (fun c d _ H => E c d H) (takes_of rfl rfl rfl rfl)
  refine ⟨t, pt, q _ _ A' H mem _ (fun _ hp => by cases hp) (env_start (N := N) r) R ?_⟩
  unfold afOf at p
  show PostS K g A' H (as (ds.map some ++ List.replicate (N.length - ds.length) none) mem) _ _
  cases e : as (ds.map some ++ List.replicate (N.length - ds.length) none) mem with
  | nx e2 m2 => rw [e] at p; exact fun σ A2 H2 s2 r2 _ => p .non A2 H2 s2 r2 .non
  | rt d m2 => rw [e] at p; exact p
  | er x e2 m2 => rw [e] at p; exact fun c dd σ A2 H2 s2 r2 _ ex => p c dd A2 H2 s2 r2 ex
  | bk e2 m2 => rw [e] at p; exact p.elim
  | ct e2 m2 => rw [e] at p; exact p.elim
  | no => rw [e] at p; exact p.elim
end
section
variable {X : Cx} {g : Glb} {γ : Gam} {e : Expr} {es : List Expr} {aa : AA} {p pos : Pos} {x : Str}
theorem post_nil {K : PySem.W.Frag} {A : List Addr} {H : Hp} {vs : List V} {α : Type} (P : List V → α) : P (vs ++ []) = P vs := by rw [List.append_nil]
/-- f(e, ..) -/
theorem se_call {k n : Nat} {af : AF} (F : FnA X.prog X.w X.K X.mg X.base g k x n af) (hr : Room k X.A) (hl : (e :: es).length = n) (ha : SA X g γ (e :: es) aa) (hla : ∀ env m ds m', aa env m = .ok ds m' → ds.length = n) (hg : L2.Gl X x := by rfl) (hdb : (x == ("__debug__" : Str)) = false := by decide)
    (he : starEach (e :: es) X.env = (false, eval e X.env) :: starEach es X.env := by rfl) (hpl : (backTo pos (starEach es X.env)).any (·.1) = false := by rfl) : SE X g γ (.Call (.Name x p) (e :: es) [] pos) (eCall af aa) := ⟨fun W tk => by
  obtain ⟨t, pa, q⟩ := ha.out W tk
  obtain ⟨f, fd, ps, hm, _, hk, hb, F⟩ := F.ex
  refine ⟨_, pe_callS F hr hg hm hk hb (fun σ => passAt tk σ) pa hdb he hpl, fun σ env A H mem Q hg he hr hp => ?_⟩
  have key : ∀ ds m, aa env mem = .ok ds m → ds.length = n := fun ds m z => hla env mem ds m z
  cases e1 : aa env mem with
  | ok ds m =>
    refine q σ env A H mem _ hg he hr ?_
    unfold eCall at hp
    rw [e1] at hp ⊢
    exact fun vs A1 H1 s1 r1 rv => ⟨by rw [rv.length]; exact key ds m e1, A1, m, ds, r1, rv, Post.up s1 hp⟩
  | er y m =>
    refine q σ env A H mem _ hg he hr ?_
    unfold eCall at hp
    rw [e1] at hp ⊢
    exact hp
  | no =>
    unfold eCall at hp
    rw [e1] at hp
    exact hp.elim⟩
/-- f() -/
theorem se_call0 {k : Nat} {af : AF} (F : FnA X.prog X.w X.K X.mg X.base g k x 0 af) (hr : Room k X.A) (hg : L2.Gl X x := by rfl) (hdb : (x == ("__debug__" : Str)) = false := by decide) : SE X g γ (.Call (.Name x p) [] [] pos) (eCall af aNil) := ⟨fun W tk => by
  obtain ⟨f, fd, ps, hm, _, hk, hb, F⟩ := F.ex
  refine ⟨fun σ H Q => spOf X.K g 0 af [] H Q (WE W σ), ⟨fun pins s σ H Q I h => ?_⟩, fun σ env A H mem Q hg he hr hp => ⟨rfl, A, mem, [], hr, .nil, hp⟩⟩
  refine wpAny_Call_Name_kw (ld_glob I hg hm ?_ hdb)
  exact PySem.W.callWith_K0 I.kIn hk (run_fnS (us := []) F hr hb (passAt tk σ) I .nil h)⟩
/-- built-in functions, built-in types -/
theorem se_cb {id : String} {F : FL} (h : CaA X g (.builtin id) F) (hm : X.mg x = none) (hv : bootBuiltins x = some (.builtin id)) (ha : SA X g γ (e :: es) aa) (hg : L2.Gl X x := by rfl) (hn : x ≠ "__name__" := by decide) (hdb : (x == ("__debug__" : Str)) = false := by decide)
    (he : starEach (e :: es) X.env = (false, eval e X.env) :: starEach es X.env := by rfl) (hpl : (backTo pos (starEach es X.env)).any (·.1) = false := by rfl) : SE X g γ (.Call (.Name x p) (e :: es) [] pos) (eCall F aa) := ⟨fun W tk => by
  obtain ⟨r, h1, h2⟩ := h.out
  obtain ⟨t, pa, q⟩ := ha.out W tk
  refine ⟨_, pe_callB h1 hg hm hv pa hn hdb he hpl, fun σ env A H mem Q hg he hr hp => ?_⟩
  exact q σ env A H mem _ hg he hr (hp.bnd fun vs A1 H1 ds m s1 r1 rv p1 => h2 A1 H1 m vs ds Q _ r1 rv p1)⟩
theorem se_ct {T : String} {F : FL} (h : CaA X g (.type T) F) (hm : X.mg x = none) (hv : bootBuiltins x = some (.type T)) (ha : SA X g γ (e :: es) aa) (hg : L2.Gl X x := by rfl) (hn : x ≠ "__name__" := by decide) (hdb : (x == ("__debug__" : Str)) = false := by decide)
    (he : starEach (e :: es) X.env = (false, eval e X.env) :: starEach es X.env := by rfl) (hpl : (backTo pos (starEach es X.env)).any (·.1) = false := by rfl) : SE X g γ (.Call (.Name x p) (e :: es) [] pos) (eCall F aa) := ⟨fun W tk => by
  obtain ⟨r, h1, h2⟩ := h.out
  obtain ⟨t, pa, q⟩ := ha.out W tk
  refine ⟨_, pe_callTy h1 hg hm hv pa hn hdb he hpl, fun σ env A H mem Q hg he hr hp => ?_⟩
  exact q σ env A H mem _ hg he hr (hp.bnd fun vs A1 H1 ds m s1 r1 rv p1 => h2 A1 H1 m vs ds Q _ r1 rv p1)⟩

/-! ### built-ins -/
def itemsD (d : D) (m : Mem) : Option (List D) := match d with
  | .tup ds => some ds
  | .ref n => match m[n]? with
    | some (.lst ds) => some ds
    | some (.rol ds) => some ds
    | _ => none
  | _ => none
theorem items_sq {A : List Addr} {H : Hp} {m : Mem} {v : V} {d : D} {ds : List D} (r : Rel X.K g A H m) (rv : Rep X.K g A H v d) (h : itemsD d m = some ds) : ∃ b a vs, v = .ref a ∧ SqB X.K b H a vs ∧ RepL X.K g A H vs ds := by
  unfold itemsD at h
  cases rv with
  | @tup a vs ds' hn l => cases h; exact ⟨true, a, vs, rfl, hn.t, l⟩
  | @ref n a ha =>
    dsimp only at h
    split at h
    · rename_i ds' hm
      cases h
      obtain ⟨vs, e, q⟩ := r.cell _ _ _ ha hm
      exact ⟨false, a, vs, rfl, .inl (.inl e), q⟩
    · rename_i ds' hm
      cases h
      obtain ⟨vs, e, q⟩ := r.cell _ _ _ ha hm
      exact ⟨false, a, vs, rfl, e.l, q⟩
    · cases h
  | _ => cases h
theorem items_ref {A : List Addr} {H : Hp} {m : Mem} {n : Nat} {a : Addr} {ds : List D} (r : Rel X.K g A H m) (ha : A[n]? = some a) (h : itemsD (.ref n) m = some ds) : ∃ vs, SqL X.K H a vs ∧ RepL X.K g A H vs ds := by
  unfold itemsD at h
  dsimp only at h
  split at h
  · rename_i ds' hm
    cases h
    obtain ⟨vs, e, q⟩ := r.cell _ _ _ ha hm
    exact ⟨vs, .inl (.inl e), q⟩
  · rename_i ds' hm
    cases h
    obtain ⟨vs, e, q⟩ := r.cell _ _ _ ha hm
    exact ⟨vs, e.l, q⟩
  · cases h
theorem sqB_or {K : PySem.W.Frag} {b : Bool} {H : Hp} {a : Addr} {vs : List V} (h : SqB K b H a vs) : SqL K H a vs ∨ SqT K H a vs := by
  cases b with
  | true => exact .inr h
  | false => exact .inl h
theorem caR_or {f : Value} {r r' : List V → Hp → VK → Prop} (h : CallR X f r) (h' : CallR X f r') : CallR X f (fun xs H Q => r xs H Q ∨ r' xs H Q) := by
  intro pins s σ H xs us Q I rs q
  rcases q with q | q
  · exact h pins s σ H xs us Q I rs q
  · exact h' pins s σ H xs us Q I rs q
theorem repL_one {A : List Addr} {H : Hp} {xs : List V} {d : D} (h : RepL X.K g A H xs [d]) : ∃ v, xs = [v] ∧ Rep X.K g A H v d := by
  cases h with
  | cons h1 h2 => cases h2; exact ⟨_, rfl, h1⟩
theorem repL_two {A : List Addr} {H : Hp} {xs : List V} {d e : D} (h : RepL X.K g A H xs [d, e]) : ∃ v w, xs = [v, w] ∧ Rep X.K g A H v d ∧ Rep X.K g A H w e := by
  cases h with
  | cons h1 h2 => cases h2 with
    | cons h2 h3 => cases h3; exact ⟨_, _, rfl, h1, h2⟩
def bLen : FL := fun ds m => match ds with
  | [d] => match itemsD d m with
    | some xs => .ok (.int (xs.length : Int)) m
    | none => match d with
      | .str s => if s.length ≤ sizeLine then .ok (.int (s.length : Int)) m else .no
      | .ref n => match m[n]? with
        | some (.dic kvs) => .ok (.int (kvs.length : Int)) m
        | _ => .no
      | _ => .no
  | _ => .no
theorem call_lenDict : CallR X (.builtin "len") (fun xs H Q => ∃ a kvs, xs = [.ref a] ∧ H a = some (.dK kvs) ∧ Q (.int kvs.length) H) := by
  intro pins s σ H xs us Q I r h
  obtain ⟨a, kvs, rfl, hd, q⟩ := h
  obtain ⟨u, rfl, ru⟩ := r.one
  cases ru
  exact d_len I (.inl hd) fun t s' J => ⟨.int _, H, J, ⟨t, rfl⟩, q⟩
theorem ca_len : CaA X g (.builtin "len") bLen := ⟨_, caR_or call_len_seq (caR_or call_len_str call_lenDict), fun A H mem xs ds Q W R rs p => by
  unfold bLen at p
  split at p
  · rename_i d
    obtain ⟨v, rfl, rv⟩ := repL_one rs
    split at p
    · rename_i ys hi
      obtain ⟨b, a, vs, rfl, hs, l⟩ := items_sq R rv hi
      exact .inl ⟨a, vs, rfl, sqB_or hs, by rw [l.length]; exact p _ A H .refl R (.int _)⟩
    · cases rv with
      | str s =>
        dsimp only at p
        split at p
        · rename_i hl
          exact .inr (.inl ⟨s, rfl, hl, p _ A H .refl R (.int _)⟩)
        · exact p.elim
      | @ref n a ha =>
        dsimp only at p
        split at p
        · rename_i kvs hm
          obtain ⟨ks, e, q⟩ := R.cell _ _ _ ha hm
          exact .inr (.inr ⟨a, ks, rfl, e, by rw [q.length]; exact p _ A H .refl R (.int _)⟩)
        · exact p.elim
      | _ => exact p.elim
  · exact p.elim⟩
def bInt : FL := fun ds m => match ds with
  | [.int i] => .ok (.int i) m
  | [.bl b] => .ok (.int (if b then 1 else 0)) m
  | _ => .no
theorem ca_int : CaA X g (.type "int") bInt := ⟨_, call_int1, fun A H mem xs ds Q W R rs p => by
  unfold bInt at p
  split at p
  · obtain ⟨v, rfl, rv⟩ := repL_one rs; cases rv
    exact .inl ⟨_, rfl, p _ A H .refl R (.int _)⟩
  · obtain ⟨v, rfl, rv⟩ := repL_one rs; cases rv
    exact .inr ⟨_, rfl, p _ A H .refl R (.int _)⟩
  · exact p.elim⟩
def bAbs : FL := fun ds m => match ds with
  | [.int i] => .ok (.int (if i < 0 then -i else i)) m
  | _ => .no
theorem ca_abs : CaA X g (.builtin "abs") bAbs := ⟨_, call_abs, fun A H mem xs ds Q W R rs p => by
  unfold bAbs at p
  split at p
  · obtain ⟨v, rfl, rv⟩ := repL_one rs; cases rv
    exact ⟨_, rfl, p _ A H .refl R (.int _)⟩
  · exact p.elim⟩
/-- the ints of a row -/
def intsD : List D → Option (List Int)
  | [] => some []
  | .int i :: r => (intsD r).map (i :: ·)
  | _ :: _ => none
theorem intsD_v {A : List Addr} {H : Hp} : ∀ {ds : List D} {ns : List Int} {vs : List V}, intsD ds = some ns → RepL X.K g A H vs ds → vs = ns.map V.int
  | [], ns, vs, h, r => by cases h; cases r; rfl
  | d :: ds, ns, vs, h, r => by
    cases r with
    | cons h1 h2 =>
      cases d <;> try (cases h)
      rename_i i
      simp only [intsD, Option.map_eq_some_iff] at h
      obtain ⟨ms, e, rfl⟩ := h
      cases h1
      rw [List.map_cons, intsD_v e h2]
theorem intsD_map : ∀ ns : List Int, intsD (ns.map D.int) = some ns
  | [] => rfl
  | n :: ns => by simp [intsD, intsD_map ns]
def bSum : FL := fun ds m => match ds with
  | [.ref n] => match itemsD (.ref n) m with
    | some xs => match intsD xs with
      | some ns => .ok (.int ns.sum) m
      | none => .no
    | none => .no
  | _ => .no
theorem ca_sum (hc : X.calm = true) : CaA X g (.builtin "sum") bSum := ⟨_, cr_sum hc, fun A H mem xs ds Q W R rs p => by
  unfold bSum at p
  split at p
  · rename_i n
    obtain ⟨v, rfl, rv⟩ := repL_one rs
    split at p
    · rename_i ys hi
      split at p
      · rename_i ns hn
        cases rv with
        | @ref _ a ha =>
          unfold itemsD at hi
          dsimp only at hi
          have fin : ∀ vs, SqL X.K H a vs → RepL X.K g A H vs ys → rSum X.K [V.ref a] H Q := fun vs hs l => by
            have e := intsD_v hn l
            subst e
            exact ⟨a, ns, rfl, hs, p _ A H .refl R (.int _)⟩
          split at hi
          · rename_i hm
            cases hi
            obtain ⟨vs, e, q⟩ := R.cell _ _ _ ha hm
            exact fin vs (.inl (.inl e)) q
          · rename_i hm
            cases hi
            obtain ⟨vs, e, q⟩ := R.cell _ _ _ ha hm
            exact fin vs e.l q
          · cases hi
      · exact p.elim
    · exact p.elim
  · exact p.elim⟩
def bMinMax (f : Int → List Int → Int) : FL := fun ds m => match ds with
  | [.int i, .int j] => .ok (.int (f i [j])) m
  | [d] => match itemsD d m with
    | some xs => match intsD xs with
      | some (n :: ns) => .ok (.int (f n ns)) m
      | _ => .no
    | none => .no
  | _ => .no
abbrev bMin : FL := bMinMax fun n ns => ns.foldl min n
abbrev bMax : FL := bMinMax fun n ns => ns.foldl max n
theorem ca_mm {id : String} {f : Int → List Int → Int} {c : Int → Int → Int} (h1 : CallR X (.builtin id) (rMinB X.K f)) (h2 : CallR X (.builtin id) (fun xs H Q => ∃ i j, xs = [.int i, .int j] ∧ Q (.int (c i j)) H)) (hc : ∀ i j, c i j = f i [j]) : CaA X g (.builtin id) (bMinMax f) := ⟨_, caR_or h1 h2, fun A H mem xs ds Q W R rs p => by
  unfold bMinMax at p
  split at p
  · rename_i i j
    obtain ⟨v, w, rfl, rv, rw'⟩ := repL_two rs
    cases rv; cases rw'
    exact .inr ⟨i, j, rfl, by rw [hc]; exact p _ A H .refl R (.int _)⟩
  · obtain ⟨v, rfl, rv⟩ := repL_one rs
    split at p
    · rename_i ys hi
      split at p
      · rename_i n ns hn
        obtain ⟨b, a, vs, rfl, hs, l⟩ := items_sq R rv hi
        have e := intsD_v hn l
        subst e
        exact .inl ⟨b, a, n, ns, rfl, hs, p _ A H .refl R (.int _)⟩
      · exact p.elim
    · exact p.elim
  · exact p.elim⟩
theorem ca_min (hc : X.calm = true) (hu : X.A.units + 64 < cLine) : CaA X g (.builtin "min") bMin := ca_mm (cr_minB hc hu) (call_min2 hc) fun i j => by
  show (if j < i then j else i) = min i j
  rw [Int.min_def]; split <;> split <;> omega
theorem ca_max (hc : X.calm = true) (hu : X.A.units + 64 < cLine) : CaA X g (.builtin "max") bMax := ca_mm (cr_maxB hc hu) (call_max2 hc) fun i j => by
  show (if j > i then j else i) = max i j
  rw [Int.max_def]; split <;> split <;> omega
/-- THE sorted list -/
def insI (x : Int) : List Int → List Int
  | [] => [x]
  | y :: r => if x ≤ y then x :: y :: r else y :: insI x r
def sortI : List Int → List Int
  | [] => []
  | x :: r => insI x (sortI r)
theorem insI_perm (x : Int) : ∀ l, (insI x l).Perm (x :: l)
  | [] => .refl _
  | y :: r => by
    unfold insI
    split
    · exact .refl _
    · exact ((insI_perm x r).cons y).trans (.swap x y r)
theorem sortI_perm : ∀ l, (sortI l).Perm l
  | [] => .refl _
  | x :: r => (insI_perm x _).trans ((sortI_perm r).cons x)
theorem insI_sorted (x : Int) : ∀ l : List Int, l.Pairwise (· ≤ ·) → (insI x l).Pairwise (· ≤ ·)
  | [], _ => by simp [insI]
  | y :: r, h => by
    unfold insI
    split
    · rename_i hxy
      refine List.pairwise_cons.mpr ⟨fun z hz => ?_, h⟩
      rcases List.mem_cons.mp hz with rfl | hz
      · exact hxy
      · exact Int.le_trans hxy ((List.pairwise_cons.mp h).1 z hz)
    · rename_i hxy
      refine List.pairwise_cons.mpr ⟨fun z hz => ?_, insI_sorted x r (List.pairwise_cons.mp h).2⟩
      rcases List.mem_cons.mp ((insI_perm x r).mem_iff.mp hz) with rfl | hz
      · omega
      · exact (List.pairwise_cons.mp h).1 z hz
theorem sortI_sorted : ∀ l : List Int, (sortI l).Pairwise (· ≤ ·)
  | [] => .nil
  | x :: r => insI_sorted x _ (sortI_sorted r)
theorem sorted_uniq : ∀ {a b : List Int}, a.Perm b → a.Pairwise (· ≤ ·) → b.Pairwise (· ≤ ·) → a = b
  | [], b, p, _, _ => by rw [List.nil_perm.mp p]
  | x :: a, [], p, _, _ => by cases List.perm_nil.mp p
  | x :: a, y :: b, p, ha, hb => by
    have h1 := List.pairwise_cons.mp ha
    have h2 := List.pairwise_cons.mp hb
    have e : x = y := by
      have m1 : x ∈ y :: b := p.mem_iff.mp (List.mem_cons_self ..)
      have m2 : y ∈ x :: a := p.mem_iff.mpr (List.mem_cons_self ..)
      rcases List.mem_cons.mp m1 with e | m1
      · exact e
      · rcases List.mem_cons.mp m2 with e | m2
        · exact e.symm
        · exact Int.le_antisymm (h1.1 y m2) (h2.1 x m1)
    subst e
    rw [sorted_uniq (List.perm_cons x |>.mp p) h1.2 h2.2]
def bSorted : FL := fun ds m => match ds with
  | [d] => match itemsD d m with
    | some xs => match intsD xs with
      | some ns => .ok (.ref m.length) (m ++ [.lst ((sortI ns).map D.int)])
      | none => .no
    | none => .no
  | _ => .no
theorem repL_ints {A : List Addr} {H : Hp} : ∀ ns : List Int, RepL X.K g A H (ns.map V.int) (ns.map D.int)
  | [] => .nil
  | n :: ns => .cons (.int n) (repL_ints ns)
theorem ca_sorted : CaA X g (.builtin "sorted") bSorted := ⟨_, cr_sortedB, fun A H mem xs ds Q W R rs p => by
  unfold bSorted at p
  split at p
  · obtain ⟨v, rfl, rv⟩ := repL_one rs
    split at p
    · rename_i ys hi
      split at p
      · rename_i ns hn
        obtain ⟨b, a, vs, rfl, hs, l⟩ := items_sq R rv hi
        have e := intsD_v hn l
        subst e
        refine ⟨b, a, ns, rfl, hs, fun ns' q hp hs' hq => ?_⟩
        have e2 : ns' = sortI ns := sorted_uniq (hp.trans (sortI_perm ns).symm) hs' (sortI_sorted ns)
        subst e2
        obtain ⟨s2, r2, e2⟩ := R.alloc (o := .lst ((sortI ns).map V.int)) (c := .lst ((sortI ns).map D.int)) hq fun s => ⟨_, upd_same, repL_ints _⟩
        exact p _ _ _ s2 r2 (.ref e2)
      · exact p.elim
    · exact p.elim
  · exact p.elim⟩
def keyI : Key → D
  | .inl i => .int i
  | .inr x => .str x
def bList : FL := fun ds m => match ds with
  | [d] => match itemsD d m with
    | some xs => .ok (.ref m.length) (m ++ [.lst xs])
    | none => match d with
      | .ref n => match m[n]? with
        | some (.dic kvs) => .ok (.ref m.length) (m ++ [.lst (kvs.map fun kv => keyI kv.1)])
        | _ => .no
      | _ => .no
  | _ => .no
theorem repL_keys {A : List Addr} {H : Hp} : ∀ {ks : List (Key × V)} {kvs : List (Key × D)}, RepP X.K g A H ks kvs → RepL X.K g A H (ks.map fun kv => kV kv.1) (kvs.map fun kv => keyI kv.1)
  | _, _, .nil => .nil
  | _, _, .cons h l => .cons (by rename_i k _ _ _ _; cases k <;> constructor) (repL_keys l)
theorem ca_list (hc : X.calm = true) : CaA X g (.type "list") bList := ⟨_, caR_or call_list_of (call_list_dK hc), fun A H mem xs ds Q W R rs p => by
  unfold bList at p
  split at p
  · obtain ⟨v, rfl, rv⟩ := repL_one rs
    split at p
    · rename_i ys hi
      obtain ⟨b, a, vs, rfl, hs, l⟩ := items_sq R rv hi
      refine .inl ⟨a, vs, rfl, sqB_or hs, fun q hq => ?_⟩
      obtain ⟨s2, r2, e2⟩ := R.alloc (o := .lst vs) (c := .lst ys) hq fun s => ⟨_, upd_same, l.stab s⟩
      exact p _ _ _ s2 r2 (.ref e2)
    · cases rv with
      | @ref n a ha =>
        dsimp only at p
        split at p
        · rename_i kvs hm
          obtain ⟨ks, e, l⟩ := R.cell _ _ _ ha hm
          refine .inr ⟨a, ks, rfl, e, fun q hq => ?_⟩
          obtain ⟨s2, r2, e2⟩ := R.alloc (o := .lst (ks.map fun kv => kV kv.1)) (c := .lst (kvs.map fun kv => keyI kv.1)) hq fun s => ⟨_, upd_same, repL_keys (l.stab s)⟩
          exact p _ _ _ s2 r2 (.ref e2)
        · exact p.elim
      | _ => exact p.elim
  · exact p.elim⟩
def bTuple : FL := fun ds m => match ds with
  | [d] => match itemsD d m with
    | some xs => .ok (.tup xs) m
    | none => .no
  | _ => .no
theorem ca_tuple : CaA X g (.type "tuple") bTuple := ⟨_, call_tupleF, fun A H mem xs ds Q W R rs p => by
  unfold bTuple at p
  split at p
  · obtain ⟨v, rfl, rv⟩ := repL_one rs
    split at p
    · rename_i ys hi
      cases rv with
      | @tup a vs ds' hn l =>
        cases hi
        exact ⟨a, vs, rfl, .inr ⟨hn.t, p _ A H .refl R (.tup hn l)⟩⟩
      | @ref n a ha =>
        obtain ⟨vs, hL, l⟩ := items_ref R ha hi
        refine ⟨a, vs, rfl, .inl ⟨hL, fun q o ho hq => ?_⟩⟩
        obtain ⟨s2, r2⟩ := R.new (o := .frz o (.tup vs)) hq
        exact p _ A _ s2 r2 (.tup (.inl ⟨o, upd_same, ho⟩) (l.stab s2))
      | _ => cases hi
    · exact p.elim
  · exact p.elim⟩
end
end Ab
set_option Elab.async false
set_option linter.all false
set_option maxRecDepth 100000
namespace Ab
open PySem PySem.Spec PyProof.Rows L2

/-! ### all, any -/
def boolsD : List D → Option (List Bool)
  | [] => some []
  | .bl i :: r => (boolsD r).map (i :: ·)
  | _ :: _ => none
def bAll (q : Bool) : FL := fun ds m => match ds with
  | [.ref n] => match itemsD (.ref n) m with
    | some xs => match boolsD xs with
      | some bs => .ok (.bl (if q = true then bs.all id else bs.any id)) m
      | none => .no
    | none => .no
  | _ => .no
section
variable {X : Cx} {g : Glb} {γ : Gam} {e : Expr} {es : List Expr} {aa : AA} {p pos : Pos} {x : Str}
theorem boolsD_v {A : List Addr} {H : Hp} : ∀ {ds : List D} {ns : List Bool} {vs : List V}, boolsD ds = some ns → RepL X.K g A H vs ds → vs = ns.map V.bl
  | [], ns, vs, h, r => by cases h; cases r; rfl
  | d :: ds, ns, vs, h, r => by
    cases r with
    | cons h1 h2 =>
      cases d <;> try (cases h)
      rename_i i
      simp only [boolsD, Option.map_eq_some_iff] at h
      obtain ⟨ms, e, rfl⟩ := h
      cases h1
      rw [List.map_cons, boolsD_v e h2]
theorem boolsD_map : ∀ ns : List Bool, boolsD (ns.map D.bl) = some ns
  | [] => rfl
  | n :: ns => by simp [boolsD, boolsD_map ns]
theorem ca_all (hc : X.calm = true) : CaA X g (.builtin "all") (bAll true) := ⟨_, cr_all hc, fun A H mem xs ds Q W R rs p => by
  unfold bAll at p
  split at p
  · rename_i n
    obtain ⟨v, rfl, rv⟩ := repL_one rs
    split at p
    · rename_i ys hi
      split at p
      · rename_i ns hn
        cases rv with
        | @ref _ a ha =>
          obtain ⟨vs, hs, l⟩ := items_ref R ha hi
          have e := boolsD_v hn l
          subst e
          exact ⟨a, ns, rfl, hs, p _ A H .refl R (.bl _)⟩
      · exact p.elim
    · exact p.elim
  · exact p.elim⟩
theorem ca_any (hc : X.calm = true) : CaA X g (.builtin "any") (bAll false) := ⟨_, cr_any hc, fun A H mem xs ds Q W R rs p => by
  unfold bAll at p
  split at p
  · rename_i n
    obtain ⟨v, rfl, rv⟩ := repL_one rs
    split at p
    · rename_i ys hi
      split at p
      · rename_i ns hn
        cases rv with
        | @ref _ a ha =>
          obtain ⟨vs, hs, l⟩ := items_ref R ha hi
          have e := boolsD_v hn l
          subst e
          exact ⟨a, ns, rfl, hs, p _ A H .refl R (.bl _)⟩
      · exact p.elim
    · exact p.elim
  · exact p.elim⟩

/-! ### methods -/
def eMt (ty : D → Mem → Bool) (F : D → FL) (a : AE) (aa : AA) : AE := fun env m => (a env m).bind fun x m => if ty x m = true then (aa env m).bind fun xs m => F x xs m else .no
def isL (d : D) (m : Mem) : Bool := match d with
  | .ref n => match m[n]? with
    | some (.lst _) => true
    | some (.rol _) => true
    | _ => false
  | _ => false
def isDc (d : D) (m : Mem) : Bool := match d with
  | .ref n => match m[n]? with
    | some (.dic _) => true
    | _ => false
  | _ => false
def isS (d : D) (_ : Mem) : Bool := match d with
  | .str _ => true
  | _ => false
def isT (d : D) (_ : Mem) : Bool := match d with
  | .tup _ => true
  | _ => false
theorem isL_ty {A : List Addr} {H : Hp} {m : Mem} {v : V} {d : D} (R : Rel X.K g A H m) (rv : Rep X.K g A H v d) (h : isL d m = true) : tyV X.K "list" v H := by
  unfold isL at h
  cases rv with
  | @ref n a ha =>
    dsimp only at h
    split at h
    · rename_i ds hm
      obtain ⟨vs, e, _⟩ := R.cell _ _ _ ha hm
      exact .inl ⟨rfl, vs, .inl (.inl e)⟩
    · rename_i ds hm
      obtain ⟨vs, e, _⟩ := R.cell _ _ _ ha hm
      exact .inl ⟨rfl, vs, e.l⟩
    · cases h
  | _ => cases h
theorem isDc_ty {A : List Addr} {H : Hp} {m : Mem} {v : V} {d : D} (R : Rel X.K g A H m) (rv : Rep X.K g A H v d) (h : isDc d m = true) : tyV X.K "dict" v H := by
  unfold isDc at h
  cases rv with
  | @ref n a ha =>
    dsimp only at h
    split at h
    · rename_i ds hm
      obtain ⟨vs, e, _⟩ := R.cell _ _ _ ha hm
      exact .inr (.inr (.inl ⟨rfl, .inl ⟨vs, e⟩⟩))
    · cases h
  | _ => cases h
theorem isS_ty {A : List Addr} {H : Hp} {m : Mem} {v : V} {d : D} (R : Rel X.K g A H m) (rv : Rep X.K g A H v d) (h : isS d m = true) : tyV X.K "str" v H := by
  unfold isS at h
  cases rv with
  | str s => rfl
  | _ => cases h
section
variable {o : Expr} {a : AE} {name : Str} {apos cpos : Pos} {T id : String} {F : D → FL} {ty : D → Mem → Bool}
theorem se_bm (pa : PlainAttrs T) (slot : Slot T name id) (hty : typeOf (.builtin id) = pure (.type "method_descriptor")) (hm : MtA X g T id F) (hT : ∀ A H m v d, Rel X.K g A H m → Rep X.K g A H v d → ty d m = true → tyV X.K T v H) (ho : SE X g γ o a) (ha : SA X g γ (e :: es) aa)
    (hbase : attributeBase o name X.env (eval o X.env) = eval o X.env := by rfl)
    (hfew : ((backTo cpos (starEach (e :: es) X.env)).all (fun x => !x.1) && (backToKw cpos (keywordEach [] X.env)).all (fun x => x.1.isSome)
      && decide ((e :: es).length + ([] : List Keyword).length + (if ([] : List Keyword).isEmpty then 0 else 1) < 30)) = true := by rfl)
    (hline : (apos.endLine == cpos.line) = true := by rfl) (hs : starEach (e :: es) X.env = (false, eval e X.env) :: starEach es X.env := by rfl) (hplain : (backTo cpos (starEach es X.env)).any (·.1) = false := by rfl) :
    SE X g γ (.Call (.Attribute o name apos) (e :: es) [] cpos) (eMt ty F a aa) := ⟨fun W tk => by
  obtain ⟨r, h1, h2⟩ := hm.out
  obtain ⟨to, po, qo⟩ := ho.out W tk
  obtain ⟨t, pa', q⟩ := ha.out W tk
  refine ⟨_, pe_bm pa slot hty h1 po pa' hbase hfew hline hs hplain, fun σ env A H mem Q hg he hr hp => ?_⟩
  refine qo σ env A H mem _ hg he hr (hp.bnd fun v A1 H1 d m s1 r1 rv p1 => ?_)
  split at p1
  · rename_i ht
    refine ⟨hT A1 H1 m v d r1 rv ht, ?_⟩
    exact q σ env A1 H1 m _ (hg.pre s1.pre) (he.stab s1) r1 (p1.bnd fun vs A2 H2 ds m2 s2 r2 rvs p2 => h2 A2 H2 m2 v d vs ds Q _ r2 (rv.stab s2) rvs p2)
  · exact p1.elim⟩
theorem se_bm0 (pa : PlainAttrs T) (slot : Slot T name id) (hty : typeOf (.builtin id) = pure (.type "method_descriptor")) (hm : MtA X g T id F) (hT : ∀ A H m v d, Rel X.K g A H m → Rep X.K g A H v d → ty d m = true → tyV X.K T v H) (ho : SE X g γ o a)
    (hbase : attributeBase o name X.env (eval o X.env) = eval o X.env := by rfl) (hline : (apos.endLine == cpos.line) = true := by rfl) :
    SE X g γ (.Call (.Attribute o name apos) [] [] cpos) (eMt ty F a aNil) := ⟨fun W tk => by
  obtain ⟨r, h1, h2⟩ := hm.out
  obtain ⟨to, po, qo⟩ := ho.out W tk
  refine ⟨_, pe_bm0 pa slot hty h1 po hbase hline, fun σ env A H mem Q hg he hr hp => ?_⟩
  refine qo σ env A H mem _ hg he hr (hp.bnd fun v A1 H1 d m s1 r1 rv p1 => ?_)
  split at p1
  · rename_i ht
    exact ⟨hT A1 H1 m v d r1 rv ht, h2 A1 H1 m v d [] [] Q _ r1 rv .nil p1⟩
  · exact p1.elim⟩
theorem se_tm (pa : PlainAttrs "tuple") (slot : Slot "tuple" name id) (hty : typeOf (.builtin id) = pure (.type "method_descriptor")) (hm : MtA X g "tuple" id F) (ho : SE X g γ o a) (ha : SA X g γ (e :: es) aa)
    (hbase : attributeBase o name X.env (eval o X.env) = eval o X.env := by rfl)
    (hfew : ((backTo cpos (starEach (e :: es) X.env)).all (fun x => !x.1) && (backToKw cpos (keywordEach [] X.env)).all (fun x => x.1.isSome) && decide ((e :: es).length + ([] : List Keyword).length + (if ([] : List Keyword).isEmpty then 0 else 1) < 30)) = true := by rfl)
    (hline : (apos.endLine == cpos.line) = true := by rfl) (hs : starEach (e :: es) X.env = (false, eval e X.env) :: starEach es X.env := by rfl) (hplain : (backTo cpos (starEach es X.env)).any (·.1) = false := by rfl) :
    SE X g γ (.Call (.Attribute o name apos) (e :: es) [] cpos) (eMt isT F a aa) := ⟨fun W tk => by
  obtain ⟨r, h1, h2⟩ := hm.out
  obtain ⟨to, po, qo⟩ := ho.out W tk
  obtain ⟨t, pa', q⟩ := ha.out W tk
  refine ⟨_, pe_tm pa slot hty h1 po pa' hbase hfew hline hs hplain, fun σ env A H mem Q hg he hr hp => ?_⟩
  refine qo σ env A H mem _ hg he hr (hp.bnd fun v A1 H1 d m s1 r1 rv p1 => ?_)
  split at p1
  · rename_i ht
    cases rv with
    | @tup a vs ds hn l =>
      refine ⟨⟨a, vs, rfl, hn⟩, ?_⟩
      exact q σ env A1 H1 m _ (hg.pre s1.pre) (he.stab s1) r1 (p1.bnd fun ws A2 H2 es m2 s2 r2 rvs p2 => h2 A2 H2 m2 _ _ ws es Q _ r2 ((Rep.tup hn l).stab s2) rvs p2)
    | _ => cases ht
  · exact p1.elim⟩
end
def mAppend (x : D) : FL := fun xs m => match x, xs with
  | .ref n, [y] => match m[n]? with
    | some (.lst ds) => if ds.length < sizeLine then .ok .non (m.set n (.lst (ds ++ [y]))) else .no
    | _ => .no
  | _, _ => .no
theorem ma_append : MtA X g "list" "list.append" mAppend := ⟨_, mt_append, fun A H mem x dx xs ds Q W R rx rs p => by
  unfold mAppend at p
  split at p
  · rename_i n y
    obtain ⟨v, rfl, rv⟩ := repL_one rs
    split at p
    · rename_i zs hm
      split at p
      · rename_i hl
        cases rx with
        | @ref _ a ha =>
          obtain ⟨vs, e, q⟩ := R.cell _ _ _ ha hm
          refine ⟨a, vs, v, rfl, rfl, e, by rw [q.length]; exact hl, ?_⟩
          obtain ⟨s2, r2⟩ := R.write (o' := .lst (vs ++ [v])) (c' := .lst (zs ++ [y])) hm ha rfl rfl fun s => ⟨_, upd_same, (q.stab s).append (.cons (rv.stab s) .nil)⟩
          exact p _ _ _ s2 r2 .non
      · exact p.elim
    · exact p.elim
  · exact p.elim⟩
def mExtend (x : D) : FL := fun xs m => match x, xs with
  | .ref n, [.ref k] => match m[n]?, m[k]? with
    | some (.lst ds), some (.lst es) => if ds.length + es.length ≤ sizeLine then .ok .non (m.set n (.lst (ds ++ es))) else .no
    | _, _ => .no
  | _, _ => .no
theorem ma_extend : MtA X g "list" "list.extend" mExtend := ⟨_, mt_extend, fun A H mem x dx xs ds Q W R rx rs p => by
  unfold mExtend at p
  split at p
  · rename_i n k
    obtain ⟨v, rfl, rv⟩ := repL_one rs
    split at p
    · rename_i zs ys hm hk
      split at p
      · rename_i hl
        cases rx with
        | @ref _ a ha =>
          cases rv with
          | @ref _ b hb =>
            obtain ⟨vs, e, q⟩ := R.cell _ _ _ ha hm
            obtain ⟨ws, e2, q2⟩ := R.cell _ _ _ hb hk
            refine ⟨a, b, vs, ws, rfl, rfl, e, e2, by rw [q.length, q2.length]; exact hl, ?_⟩
            obtain ⟨s2, r2⟩ := R.write (o' := .lst (vs ++ ws)) (c' := .lst (zs ++ ys)) hm ha rfl rfl fun s => ⟨_, upd_same, (q.stab s).append (q2.stab s)⟩
            exact p _ _ _ s2 r2 .non
      · exact p.elim
    · exact p.elim
  · exact p.elim⟩
def mPop (x : D) : FL := fun xs m => match x, xs with
  | .ref n, [] => match m[n]? with
    | some (.lst ds) => match ds[ds.length - 1]? with
      | some d => .ok d (m.set n (.lst ds.dropLast))
      | none => .no
    | _ => .no
  | .ref n, [.int i] => match m[n]? with
    | some (.lst ds) => if -(2 ^ 63) ≤ i ∧ i < 2 ^ 63 then match seqIndex? i ds.length with
      | some k => match ds[k]? with
        | some d => .ok d (m.set n (.lst (ds.eraseIdx k)))
        | none => .no
      | none => .no
      else .no
    | _ => .no
  | _, _ => .no
theorem ma_pop : MtA X g "list" "list.pop" mPop := ⟨_, MtR.or mt_pop mt_popAt, fun A H mem x dx xs ds Q W R rx rs p => by
  unfold mPop at p
  split at p
  · rename_i n
    cases rs
    split at p
    · rename_i zs hm
      split at p
      · rename_i d hd
        cases rx with
        | @ref _ a ha =>
          obtain ⟨vs, e, q⟩ := R.cell _ _ _ ha hm
          obtain ⟨v, hv, rv⟩ := q.get hd
          refine .inl ⟨a, vs, v, rfl, rfl, e, by rw [q.length]; exact hv, ?_⟩
          obtain ⟨s2, r2⟩ := R.write (o' := .lst vs.dropLast) (c' := .lst zs.dropLast) hm ha rfl rfl fun s => ⟨_, upd_same, (q.stab s).dropLast⟩
          exact p _ _ _ s2 r2 (rv.stab s2)
      · exact p.elim
    · exact p.elim
  · rename_i n i
    obtain ⟨v, rfl, rv⟩ := repL_one rs
    cases rv
    split at p
    · rename_i zs hm
      split at p
      · rename_i hb
        split at p
        · rename_i k hk
          split at p
          · rename_i d hd
            cases rx with
            | @ref _ a ha =>
              obtain ⟨vs, e, q⟩ := R.cell _ _ _ ha hm
              obtain ⟨v, hv, rv⟩ := q.get hd
              refine .inr ⟨a, vs, i, k, v, rfl, rfl, e, hb.1, hb.2, by rw [q.length]; exact hk, hv, ?_⟩
              obtain ⟨s2, r2⟩ := R.write (o' := .lst (vs.eraseIdx k)) (c' := .lst (zs.eraseIdx k)) hm ha rfl rfl fun s => ⟨_, upd_same, (q.stab s).eraseIdx k⟩
              exact p _ _ _ s2 r2 (rv.stab s2)
          · exact p.elim
        · exact p.elim
      · exact p.elim
    · exact p.elim
  · exact p.elim⟩
def mIndex (x : D) : FL := fun xs m => match xs with
  | [y] => match toP m DEEP x, toP m DEEP y with
    | some (.list ps), some q => if SeqAt.shaped (.list ps) = true ∧ SeqAt.shaped q = true then match ps.findIdx? fun z => PyData.eqv z q with
      | some j => .ok (.int (j : Int)) m
      | none => .no
      else .no
    | _, _ => .no
  | _ => .no
theorem toP_list {A : List Addr} {H : Hp} {m : Mem} {v : V} {d : D} {ps : List PyData} (rv : Rep X.K g A H v d) (h : toP m DEEP d = some (.list ps)) : ∃ a, v = .ref a := by
  cases rv with
  | @ref n a ha => exact ⟨a, rfl⟩
  | tup _ _ => simp only [toP, Option.map_eq_some_iff] at h; obtain ⟨_, _, h⟩ := h; cases h
  | _ => simp [toP] at h
theorem ma_index (hu : X.A.units + 65 < cLine) : MtA X g "list" "list.index" mIndex := ⟨_, mt_indexD hu, fun A H mem x dx xs ds Q W R rx rs p => by
  unfold mIndex at p
  split at p
  · rename_i y
    obtain ⟨v, rfl, rv⟩ := repL_one rs
    split at p
    · rename_i ps q e1 e2
      split at p
      · rename_i hs
        split at p
        · rename_i j hj
          obtain ⟨a, rfl⟩ := toP_list rx e1
          rw [List.findIdx?_eq_some_iff_getElem] at hj
          obtain ⟨hl, h1, h2⟩ := hj
          refine ⟨a, v, q, ps, j, ps[j], rfl, rfl, toP_dp R _ _ _ _ rx e1, toP_dp R _ _ _ _ rv e2, hs.1, hs.2, List.getElem?_eq_getElem hl, h1, fun k z hk hz => ?_, p _ A H .refl R (.int _)⟩
          obtain ⟨hkl, ez⟩ := List.getElem?_eq_some_iff.mp hz
          have := h2 k hk
          rw [ez] at this
          simpa using this
        · exact p.elim
      · exact p.elim
    · exact p.elim
  · exact p.elim⟩
def mCount (x : D) : FL := fun xs m => match xs with
  | [y] => match toP m DEEP x, toP m DEEP y with
    | some (.list ps), some q => if SeqAt.shaped (.list ps) = true ∧ SeqAt.shaped q = true then .ok (.int ((ps.countP fun z => PyData.eqv z q : Nat) : Int)) m else .no
    | _, _ => .no
  | _ => .no
theorem ma_count (hu : X.A.units + 65 < cLine) : MtA X g "list" "list.count" mCount := ⟨_, mt_countD hu, fun A H mem x dx xs ds Q W R rx rs p => by
  unfold mCount at p
  split at p
  · rename_i y
    obtain ⟨v, rfl, rv⟩ := repL_one rs
    split at p
    · rename_i ps q e1 e2
      split at p
      · rename_i hs
        obtain ⟨a, rfl⟩ := toP_list rx e1
        exact ⟨a, v, q, ps, rfl, rfl, toP_dp R _ _ _ _ rx e1, toP_dp R _ _ _ _ rv e2, hs.1, hs.2, p _ A H .refl R (.int _)⟩
      · exact p.elim
    · exact p.elim
  · exact p.elim⟩
def mTIndex (x : D) : FL := fun xs m => match x, xs with
  | .tup ds, [.int k] => match intsD ds with
    | some ns => if k ∈ ns then .ok (.int (ns.idxOf k : Nat)) m else .no
    | none => .no
  | _, _ => .no
theorem ma_tindex : MtA X g "tuple" "tuple.index" mTIndex := ⟨_, mt_tupIndex, fun A H mem x dx xs ds Q W R rx rs p => by
  unfold mTIndex at p
  split at p
  · rename_i ys k
    obtain ⟨v, rfl, rv⟩ := repL_one rs
    cases rv
    split at p
    · rename_i ns hn
      split at p
      · rename_i hk
        cases rx with
        | @tup a vs _ hs l =>
          have e := intsD_v hn l
          subst e
          exact ⟨a, ns, k, rfl, rfl, hs.t, hk, p _ A H .refl R (.int _)⟩
      · exact p.elim
    · exact p.elim
  · exact p.elim⟩

/-! ### isinstance -/
def tyN (d : D) (m : Mem) : Option String := match d with
  | .non => some "NoneType"
  | .bl _ => some "bool"
  | .int _ => some "int"
  | .str _ => some "str"
  | .tup _ => some "tuple"
  | .ref n => match m[n]? with
    | some (.lst _) => some "list"
    | some (.rol _) => some "list"
    | some (.dic _) => some "dict"
    | _ => none
  | _ => none
def eIsi (T : String) (a : AE) : AE := fun env m => (a env m).bind fun d m => match tyN d m with
  | some t => match kitB t T with
    | some b => .ok (.bl b) m
    | none => .no
  | none => .no
theorem tyN_x {A : List Addr} {H : Hp} {m : Mem} {v : V} {d : D} {t : String} (R : Rel X.K g A H m) (rv : Rep X.K g A H v d) (h : tyN d m = some t) : TyX X.K H v (.type t) := by
  unfold tyN at h
  cases rv with
  | non => cases h; exact .base .non
  | bl b => cases h; exact .base (.bl b)
  | int b => cases h; exact .base (.int b)
  | str b => cases h; exact .base (.str b)
  | fn f => cases h
  | @tup a vs ds hn l =>
    cases h
    rcases hn with ⟨o, e, _⟩ | ⟨o, its, n, e, c, _⟩
    · exact .fTuple e
    · exact .kTuple e c
  | @ref n a ha =>
    dsimp only at h
    split at h
    · rename_i ds hm
      cases h
      obtain ⟨vs, e, _⟩ := R.cell _ _ _ ha hm
      exact .base (.lst e)
    · rename_i ds hm
      cases h
      obtain ⟨vs, e, _⟩ := R.cell _ _ _ ha hm
      rcases e with ⟨o, e⟩ | ⟨o, its, n, e, c, _⟩
      · exact .base (.frz e)
      · exact .kList e c
    · rename_i ds hm
      cases h
      obtain ⟨vs, e, _⟩ := R.cell _ _ _ ha hm
      exact .base (.dK e)
    · cases h
theorem se_isi {T : String} {ex : Expr} {a : AE} {tp : Pos} {t : Str} (hm : X.mg "isinstance" = none) (hT : X.mg t = none) (hv : bootBuiltins t = some (.type T)) (he : SE X g γ ex a) (hg : L2.Gl X "isinstance" := by rfl) (hg2 : L2.Gl X t := by rfl) (hn : t ≠ "__name__" := by decide) (hd : (t == ("__debug__" : Str)) = false := by decide)
    (hvi : bootBuiltins "isinstance" = some (.builtin "isinstance") := by decide +kernel)
    (hs : starEach [ex, .Name t tp] X.env = (false, eval ex X.env) :: starEach [.Name t tp] X.env := by rfl) (hpl : (backTo pos (starEach [.Name t tp] X.env)).any (·.1) = false := by rfl)
    (hs2 : starEach [.Name t tp] X.env = (false, eval (.Name t tp) X.env) :: starEach [] X.env := by rfl) : SE X g γ (.Call (.Name "isinstance" p) [ex, .Name t tp] [] pos) (eIsi T a) := ⟨fun W tk => by
  obtain ⟨te, pe, q⟩ := he.out W tk
  refine ⟨_, pe_callB call_isi hg hm hvi (pa_cons pe (pa_cons (pe_bltn (v := .ty T) hg2 hT hv rfl hn hd) pa_nil hs2) hs) (by decide) (by decide) hs hpl, fun σ env A H mem Q hgm her hr hp => ?_⟩
  refine q σ env A H mem _ hgm her hr (hp.bnd fun v A1 H1 d m s1 r1 rv p1 => ?_)
  split at p1
  · rename_i t' ht
    split at p1
    · rename_i b hb
      exact ⟨v, .ty T, .type t', .type T, b, rfl, .ty T, tyN_x r1 rv ht, kit_ty hb, p1 _ A1 H1 .refl r1 (.bl b)⟩
    · exact p1.elim
  · exact p1.elim⟩
end
end Ab
set_option Elab.async false
set_option linter.all false
set_option maxRecDepth 100000
namespace Ab
open PySem PySem.Spec PyProof.Rows L2
def aLen (aa : AA) (n : Nat) : Prop := ∀ env m ds m', aa env m = .ok ds m' → ds.length = n
theorem al_nil : aLen aNil 0 := fun _ _ _ _ h => by cases h; rfl
theorem al_cons {a : AE} {r : AA} {n : Nat} (h : aLen r n) : aLen (aCons a r) (n + 1) := fun env m ds m' e => by
  unfold aCons at e
  cases e1 : a env m with
  | ok d m1 =>
    rw [e1] at e
    dsimp only [R.bind] at e
    cases e2 : r env m1 with
    | ok es m2 =>
      rw [e2] at e
      cases e
      simp [h env m1 es _ e2]
    | er x m2 => rw [e2] at e; cases e
    | no => rw [e2] at e; cases e
  | er x m1 => rw [e1] at e; cases e
  | no => rw [e1] at e; cases e
section
variable {X : Cx} {g : Glb} {γ : Gam} {e : Expr} {es : List Expr} {aa : AA} {p pos : Pos} {x : Str}
theorem se_globI {i : Int} (h : ∃ t, X.mg x = some (.int i t)) (hg : L2.Gl X x := by rfl) (hd : (x == ("__debug__" : Str)) = false := by decide) : SE X g γ (.Name x pos) (eC (.int i)) := by
  obtain ⟨t, h⟩ := h
  exact se_glob (v := .int i) h ⟨t, rfl⟩ (fun _ _ => .int i) hg hd
theorem se_fn {k n : Nat} {af : AF} (F : FnA X.prog X.w X.K X.mg X.base g k x n af) (hg : L2.Gl X x := by rfl) (hd : (x == ("__debug__" : Str)) = false := by decide) : SE X g γ (.Name x pos) (eC (.fn x)) := by
  obtain ⟨f, fd, ps, hm, hf, _⟩ := F.ex
  exact se_glob (v := .ref f) hm rfl (fun A H => by rw [← hf]; exact .fn x) hg hd
/-- the facts of a context that its body's rules ask -/
structure CxA (X : Cx) (k : Nat) : Prop where
  calm : X.calm = true
  nd : X.N.Nodup
  own : PassesOwn (model X.prog X.w) X.A X.env X.xe
  hr : Room k X.A
end
section
variable {X : Cx} {g : Glb} {γ : Gam} {a b c e o value : Expr} {es : List Expr} {ia ib ic : AE} {aa : AA} {p pos tpos apos : Pos} {x f : Str}
theorem chain_pre {op op' : CmpOp} {F F' : F2} {W : WX} {σ : L2.St} {env : Env'} {A : List Addr} {H : Hp} {mem : Mem} {Q : VK} {ta tb tc : TE} {r r' : R2} (hg : γ.Ok A) (he : EnvR X.K g A H σ env) (hr : Rel X.K g A H mem)
    (h2 : ∀ A H mem x y dx dy Q W, Rel X.K g A H mem → Rep X.K g A H x dx → Rep X.K g A H y dy → Post X.K g (Rep X.K g) A H (F dx dy mem) Q W → r x y H Q)
    (h2' : ∀ A H mem x y dx dy Q W, Rel X.K g A H mem → Rep X.K g A H x dx → Rep X.K g A H y dy → Post X.K g (Rep X.K g) A H (F' dx dy mem) Q W → r' x y H Q)
    (qa : ∀ σ env A H mem Q, γ.Ok A → EnvR X.K g A H σ env → Rel X.K g A H mem → Post X.K g (Rep X.K g) A H (ia env mem) Q (fun c d H' => W c d σ H') → ta σ H Q)
    (qb : ∀ σ env A H mem Q, γ.Ok A → EnvR X.K g A H σ env → Rel X.K g A H mem → Post X.K g (Rep X.K g) A H (ib env mem) Q (fun c d H' => W c d σ H') → tb σ H Q)
    (qc : ∀ σ env A H mem Q, γ.Ok A → EnvR X.K g A H σ env → Rel X.K g A H mem → Post X.K g (Rep X.K g) A H (ic env mem) Q (fun c d H' => W c d σ H') → tc σ H Q)
    (hp : Post X.K g (Rep X.K g) A H (eChain F F' ia ib ic env mem) Q (fun c d H' => W c d σ H')) : tChain r r' ta tb tc σ H Q := by
  unfold eChain at hp
  refine qa σ env A H mem _ hg he hr (hp.bnd fun v A1 H1 d m s1 r1 rv p1 => ?_)
  refine qb σ env A1 H1 m _ (hg.pre s1.pre) (he.stab s1) r1 (p1.bnd fun v2 A2 H2 d2 m2 s2 r2 rv2 p2 => ?_)
  have p2' : Post X.K g (Rep X.K g) A2 H2 ((F d d2 m2).bind fun z m => (asB z m).bind fun k m => if k = true then (ic env m).bind fun z m => F' d2 z m else .ok (.bl false) m) Q (fun c d H' => W c d σ H') := by
    have e : (((F d d2 m2).bind asB).bind fun k m => if k = true then (ic env m).bind fun z m => F' d2 z m else .ok (.bl false) m) = ((F d d2 m2).bind fun z m => (asB z m).bind fun k m => if k = true then (ic env m).bind fun z m => F' d2 z m else .ok (.bl false) m) := by cases F d d2 m2 <;> rfl
    rw [← e]; exact p2
  refine h2 A2 H2 m2 v v2 d d2 _ _ r2 (rv.stab s2) rv2 (p2'.bnd fun z A3 H3 dz m3 s3 r3 rz p3 => ?_)
  unfold asB at p3
  cases rz with
  | bl k =>
    refine ⟨k, rfl, ?_⟩
    cases k with
    | false => rw [if_neg Bool.false_ne_true]; exact p3 _ A3 H3 .refl r3 (.bl _)
    | true =>
      rw [if_pos rfl]
      refine qc σ env A3 H3 m3 _ (hg.pre (s1.trans (s2.trans s3)).pre) (he.stab (s1.trans (s2.trans s3))) r3 (Post.bnd p3 fun w A4 H4 dw m4 s4 r4 rw' p4 => ?_)
      exact h2' A4 H4 m4 v2 w d2 dw _ _ r4 (rv2.stab (s3.trans s4)) rw' p4
  | _ => exact p3.elim
theorem se_chain {op op' : CmpOp} {F F' : F2} (ho : OpA X g (compareOp op) F) (ho' : OpA X g (compareOp op') F') (ha : SE X g γ a ia) (hb : SE X g γ b ib) (hc : SE X g γ c ic) (hm : lastMarks [op, op'] [b, c] = false := by with_unfolding_all rfl) :
    SE X g γ (.Compare a [op, op'] [b, c] pos) (eChain F F' ia ib ic) := ⟨fun W tk => by
  obtain ⟨r, h1, h2⟩ := ho.out
  obtain ⟨r', h1', h2'⟩ := ho'.out
  obtain ⟨ta, pa, qa⟩ := ha.out W tk
  obtain ⟨tb, pb, qb⟩ := hb.out W tk
  obtain ⟨tc, pc, qc⟩ := hc.out W tk
  exact ⟨_, pe_chain h1 h1' pa pb pc hm, fun σ env A H mem Q hg he hr hp => chain_pre (op := op) (op' := op') hg he hr h2 h2' qa qb qc hp⟩⟩
theorem st_chain {op op' : CmpOp} {F F' : F2} (ho : OpA X g (compareOp op) F) (ho' : OpA X g (compareOp op') F') (ha : SE X g γ a ia) (hb : SE X g γ b ib) (hc : SE X g γ c ic) (hm : lastMarks [op, op'] [b, c] = false := by with_unfolding_all rfl) :
    ST X g γ (.Compare a [op, op'] [b, c] pos) (tVal (eChain F F' ia ib ic)) := ⟨fun W tk => by
  obtain ⟨r, h1, h2⟩ := ho.out
  obtain ⟨r', h1', h2'⟩ := ho'.out
  obtain ⟨ta, pa, qa⟩ := ha.out W tk
  obtain ⟨tb, pb, qb⟩ := hb.out W tk
  obtain ⟨tc, pc, qc⟩ := hc.out W tk
  refine ⟨_, pt_chain h1 h1' pa pb pc hm, fun σ env A H mem Q hg he hr hp => ?_⟩
  refine chain_pre (op := op) (op' := op') hg he hr h2 h2' qa qb qc ?_
  exact Post.bnd hp fun v A1 H1 d m s1 r1 rv p1 => asB_in rv r1 p1⟩

/-! ### displays of dicts -/
abbrev ADp := Env' → Mem → R (List (Key × D))
def dpNil : ADp := fun _ m => .ok [] m
def dpCons (k v : AE) (r : ADp) : ADp := fun env m => (k env m).bind fun x m => (v env m).bind fun y m => match keyD x with
  | some kk => (r env m).bind fun l m => .ok ((kk, y) :: l) m
  | none => .no
def mergeD (kvs more : List (Key × D)) : List (Key × D) := more.foldl (fun acc kv => putD acc kv.1 kv.2) kvs
def eDisp (d : ADp) : AE := fun env m => (d env (m ++ [.dic []])).bind fun kvs m2 => match m2[m.length]? with
  | some (.dic []) => if kvs.length ≤ 15 then .ok (.ref m.length) (m2.set m.length (.dic (mergeD [] kvs))) else .no
  | _ => .no
structure SPs (X : Cx) (g : Glb) (γ : Gam) (pos : Pos) (keys : List (Option Expr)) (values : List Expr) (d : ADp) : Prop where
  out : ∀ W : WX, Takes X W → ∃ trs, PPs X pos keys values trs ∧ ∀ σ env A H mem (Q : List (V × V) → Hp → Prop), γ.Ok A → EnvR X.K g A H σ env → Rel X.K g A H mem →
    Post X.K g (fun A H (ps : List (V × V)) kvs => ∃ ks : List (Key × V), ps = ks.map (fun kv => (kV kv.1, kv.2)) ∧ RepP X.K g A H ks kvs) A H (d env mem) Q (fun c d H' => W c d σ H') → tPairs trs σ H Q
theorem spp_nil : SPs X g γ pos [] [] dpNil := ⟨fun W tk => ⟨_, pps_nil, fun σ env A H mem Q hg he hr hp => hp [] A H .refl hr ⟨[], rfl, .nil⟩⟩⟩
theorem spp_cons {k v : Expr} {ks : List (Option Expr)} {vs : List Expr} {ik iv : AE} {d : ADp} (hk : SE X g γ k ik) (hv : SE X g γ v iv) (hr : SPs X g γ pos ks vs d) : SPs X g γ pos (some k :: ks) (v :: vs) (dpCons ik iv d) := ⟨fun W tk => by
  obtain ⟨t1, p1, q1⟩ := hk.out W tk
  obtain ⟨t2, p2, q2⟩ := hv.out W tk
  obtain ⟨t3, p3, q3⟩ := hr.out W tk
  refine ⟨_, pps_cons p1 p2 p3, fun σ env A H mem Q hg he hr hp => ?_⟩
  refine q1 σ env A H mem _ hg he hr (Post.bnd hp fun x A1 H1 dx m s1 r1 rx p => ?_)
  refine q2 σ env A1 H1 m _ (hg.pre s1.pre) (he.stab s1) r1 (Post.bnd p fun y A2 H2 dy m2 s2 r2 ry p => ?_)
  split at p
  · rename_i kk hkk
    refine q3 σ env A2 H2 m2 _ (hg.pre (s1.trans s2).pre) (he.stab (s1.trans s2)) r2 (Post.bnd p fun ps A3 H3 l m3 s3 r3 rl p => ?_)
    obtain ⟨ks, rfl, rk⟩ := rl
    have ex := keyD_kV rx hkk
    subst ex
    exact p _ A3 H3 .refl r3 ⟨(kk, y) :: ks, rfl, .cons (ry.stab s3) rk⟩
  · exact p.elim⟩
theorem merge_rep {A : List Addr} {H : Hp} : ∀ {vs : List (Key × V)} {ds : List (Key × D)} {xs : List (Key × V)} {ys : List (Key × D)}, RepP X.K g A H vs ds → RepP X.K g A H xs ys → RepP X.K g A H (mergeK xs vs) (mergeD ys ds)
  | _, _, _, _, .nil, r => r
  | _, _, _, _, .cons (k := k) (v := v) (d := d) (vs := vs) (ds := ds) h l, r => by
    show RepP X.K g A H (mergeK (putK _ k v) vs) (mergeD (putD _ k d) ds)
    exact merge_rep l (r.put _ h)
theorem se_disp {keys : List (Option Expr)} {values : List Expr} {d : ADp} (h : SPs X g γ pos keys values d) (hall : keys.all (·.isSome) = true := by rfl) (hl : keys.length = values.length := by rfl) (h0 : keys ≠ [] := by exact fun z => by cases z) (h15 : keys.length ≤ 15 := by decide) : SE X g γ (.Dict keys values pos) (eDisp d) := ⟨fun W tk => by
  obtain ⟨t, p, q⟩ := h.out W tk
  refine ⟨_, pe_disp p hall hl h0 h15, fun σ env A H mem Q hg he hr hp p' hn => ?_⟩
  obtain ⟨s0, r0, e0⟩ := hr.alloc (o := .dK []) (c := .dic []) hn fun s => ⟨[], upd_same, .nil⟩
  refine q σ env _ _ _ _ (hg.pre s0.pre) (he.stab s0) r0 (Post.bnd (hp.up s0) fun ps A2 H2 kvs m2 s2 r2 rl p => ?_)
  obtain ⟨ks, rfl, rk⟩ := rl
  split at p
  · rename_i hm
    split at p
    · rename_i h15
      have ea := pre_get s2.pre e0
      obtain ⟨ks0, e1, l0⟩ := r2.cell _ _ _ ea hm
      cases l0
      refine ⟨e1, ks, rfl, by rw [rk.length]; exact h15, ?_⟩
      obtain ⟨s3, r3⟩ := r2.write (o' := .dK (mergeK [] ks)) (c' := .dic (mergeD [] kvs)) hm ea rfl rfl fun s => ⟨_, upd_same, merge_rep (rk.stab s) .nil⟩
      exact p _ _ _ s3 r3 (.ref ea)
    · exact p.elim
  · exact p.elim⟩

/-! ### instances -/
def lookF (f : Str) : List (Str × D) → Option D
  | [] => none
  | (k, d) :: r => if f = k then some d else lookF f r
def putFD (f : Str) (v : D) : List (Str × D) → List (Str × D)
  | [] => [(f, v)]
  | (k, x) :: r => if k = f then (k, v) :: r else (k, x) :: putFD f v r
theorem RepP.look {A : List Addr} {H : Hp} {f : Str} {d : D} : ∀ {fv : List (Str × V)} {fs : List (Str × D)}, RepP X.K g A H fv fs → lookF f fs = some d → ∃ v, fv.lookup f = some v ∧ Rep X.K g A H v d
  | _, _, .nil, h => by cases h
  | _, _, .cons r l, h => by
    rename_i k v d' vs ds
    unfold lookF at h
    by_cases e : f = k
    · rw [if_pos e] at h; cases h
      subst e
      exact ⟨v, by simp [List.lookup], r⟩
    · rw [if_neg e] at h
      obtain ⟨w, h1, h2⟩ := RepP.look l h
      have eb : (f == k) = false := beq_eq_false_iff_ne.mpr e
      exact ⟨w, by simp only [List.lookup, eb]; exact h1, h2⟩
theorem RepP.putF {A : List Addr} {H : Hp} {f : Str} {v : V} {d : D} (rv : Rep X.K g A H v d) : ∀ {fv : List (Str × V)} {fs : List (Str × D)}, RepP X.K g A H fv fs → RepP X.K g A H (L2.putF f v fv) (putFD f d fs)
  | _, _, .nil => .cons rv .nil
  | _, _, .cons r l => by
    rename_i k w d' vs ds
    show RepP X.K g A H (if k = f then (k, v) :: vs else (k, w) :: L2.putF f v vs) (if k = f then (k, d) :: ds else (k, d') :: putFD f d ds)
    by_cases e : k = f
    · rw [if_pos e, if_pos e]; exact .cons rv l
    · rw [if_neg e, if_neg e]; exact .cons r (RepP.putF rv l)
def eFld (c f : Str) (a : AE) : AE := fun env m => (a env m).bind fun d m => match d with
  | .ref n => match m[n]? with
    | some (.ins c' fs) => if c' = c then match lookF f fs with
      | some d => .ok d m
      | none => .no
      else .no
    | _ => .no
  | _ => .no
theorem se_fld {cn : Str} (hC : Cls X.K (g.ca cn)) (hN : NoAttr X.K (g.ca cn) f) (he : SE X g γ e ia) (hb : attributeBase e f X.env (eval e X.env) = eval e X.env := by rfl) : SE X g γ (.Attribute e f pos) (eFld cn f ia) := ⟨fun W tk => by
  obtain ⟨t, p, q⟩ := he.out W tk
  refine ⟨_, pe_fld p hb, fun σ env A H mem Q hg he hr hp => ?_⟩
  refine q σ env A H mem _ hg he hr (Post.bnd hp fun v A1 H1 d m s1 r1 rv p1 => ?_)
  cases rv with
  | @ref n a ha =>
    dsimp only at p1
    split at p1
    · rename_i c' fs hm
      split at p1
      · rename_i ec
        subst ec
        split at p1
        · rename_i d hd
          obtain ⟨dx, fv, e1, l⟩ := r1.cell _ _ _ ha hm
          obtain ⟨w, h1, h2⟩ := l.look hd
          exact ⟨a, _, dx, fv, w, rfl, e1, hC, hN, h1, p1 _ A1 H1 .refl r1 h2⟩
        · exact p1.elim
      · exact p1.elim
    · exact p1.elim
  | _ => exact p1.elim⟩
def sFldS (c f : Str) (o v : AE) : AS := fun env m => (v env m).o env fun y m => (o env m).o env fun d m => match d with
  | .ref n => match m[n]? with
    | some (.ins c' fs) => if c' = c ∧ fs.length < 1000 then .nx env (m.set n (.ins c' (putFD f y fs))) else .no
    | _ => .no
  | _ => .no
theorem ss_fld {cn : Str} (hC : Cls X.K (g.ca cn)) (hN : NoAttr X.K (g.ca cn) f) (ho : SE X g γ o ia) (hv : SE X g γ value ib) (hs : swapsWith value (some (.Attribute o f tpos)) pos.line X.env = pure false := by rfl) : SS X g γ (.Assign [.Attribute o f tpos] value pos) (sFldS cn f ia ib) := ⟨fun W tk => by
  obtain ⟨t1, p1, q1⟩ := ho.out W tk
  obtain ⟨t2, p2, q2⟩ := hv.out W tk
  refine ⟨_, ps_fld p1 p2 hs, fun σ env A H mem E hg he hr hp => ?_⟩
  refine q2 σ env A H mem _ hg he hr (PostS.of (rl := Rep X.K g) he hp fun y A1 H1 dy m s1 r1 ry p => ?_)
  refine q1 σ env A1 H1 m _ (hg.pre s1.pre) (he.stab s1) r1 (PostS.of (rl := Rep X.K g) (he.stab s1) p fun v A2 H2 d m2 s2 r2 rv p3 => ?_)
  cases rv with
  | @ref n a ha =>
    dsimp only at p3
    split at p3
    · rename_i c' fs hm
      split at p3
      · rename_i ec
        obtain ⟨rfl, hl⟩ := ec
        obtain ⟨dx, fv, e1, l⟩ := r2.cell _ _ _ ha hm
        refine ⟨a, _, dx, fv, rfl, e1, hC, hN, by rw [l.length]; exact hl, ?_⟩
        obtain ⟨s3, r3⟩ := r2.write (o' := .ins (g.ca c') dx (putF f y fv)) (c' := .ins c' (putFD f dy fs)) hm ha rfl rfl fun s => ⟨dx, _, upd_same, (l.stab s).putF (ry.stab (s2.trans s))⟩
        exact p3 _ _ _ s3 r3 (he.stab (s1.trans (s2.trans s3)))
      · exact p3.elim
    · exact p3.elim
  | _ => exact p3.elim⟩
/-- C(e, ..) -/
structure MkA (P : Program) (w : World) (K : PySem.W.Frag) (mg : Str → Option Value) (base : Heap) (g : Glb) (k : Nat) (c : Str) (n : Nat) (af : AF) : Prop where
  ex : ∃ f fd ps, Mk K (g.ca c) f ∧ mg c = some (.ref (g.ca c)) ∧ Binds K fd ps [] ∧ FnOk P w K mg base (L2.CX P w) k f fd ps (spOf K g n af)
def eMk (c : Str) (F : AF) (a : AA) : AE := fun env m => (a env m).bind fun ds m => match F (.ref m.length :: ds) (m ++ [.ins c []]) with
  | .ok .non m2 => .ok (.ref m.length) m2
  | .er x m2 => .er x m2
  | _ => .no
theorem run_makeS {pins : List (Addr × Obj)} {σ : L2.St} {H : Hp} {s : Shared} {Q : VK} {us : List Value} {vs : List V} {CX : CXT} {k : Nat} {C f : Addr} {fd : FuncData} {ps : List Str} {sp : Sp} {E : XK} (M : Mk X.K C f) (F : FnOk X.prog X.w X.K X.mg X.base CX k f fd ps sp) (hr : Room (k + 1) X.A) (hb : Binds X.K fd ps [])
    (hx : PassesAt CX X σ E) (I : Inv X pins σ H s) (r : Vals vs us)
    (h : ∀ x dx, H x = none → H dx = none → dx ≠ x → sp (.ref x :: vs) (upd (upd H dx (.own x)) x (.ins C dx [])) (fun v H2 => v = .non ∧ Q (.ref x) H2) E)
    (hE : ∀ s1 e s', Inv X pins σ (upd (upd H s.heap.objs.size (.own (s.heap.objs.size + 1))) (s.heap.objs.size + 1) (.ins C s.heap.objs.size [])) s1 → CX X.stack (upd (upd H s.heap.objs.size (.own (s.heap.objs.size + 1))) (s.heap.objs.size + 1) (.ins C s.heap.objs.size [])) s1 E e s' → X.xe e s' := fun s1 e s' I1 c => hx pins _ s1 e s' I1 c) :
    wpAny (model X.prog X.w) X.A (call (.ref C) us) (EP X pins σ Q) X.xe s := by
  have hq := h (s.heap.objs.size + 1) s.heap.objs.size (I.hok.fresh (Nat.le_succ _)) (I.hok.fresh (Nat.le_refl _)) (Nat.ne_of_lt (Nat.lt_succ_self _))
  have I2 := Inv.made (C := C) I
  have r2 : Vals (V.ref (s.heap.objs.size + 1) :: vs) (Value.ref (s.heap.objs.size + 1) :: us) := .cons rfl r
  have hl : (Value.ref (s.heap.objs.size + 1) :: us ++ []).length = ps.length := by
    have e := r2.length
    rw [F.len _ _ _ _ hq] at e
    rw [List.append_nil]
    exact e.symm
  have hbd := hb _ (Value.ref (s.heap.objs.size + 1) :: us) I2.kIn hl
  rw [List.append_nil] at hbd
  refine wpAny_call (make_map (f := f) I.kIn M.makes M.init (beq_iff_eq.mp M.fn) (codeAny_mono (F.run _ X.stack _ _ ⟨Value.ref (s.heap.objs.size + 1) :: us, []⟩ (Value.ref (s.heap.objs.size + 1) :: us) _ _ E (hr.make C us []) (I2.env0.make C us []) hbd r2 hq) fun r s' hq' => ?_))
  cases r with
  | error e => exact hE _ e s' I2 hq'
  | ok fl =>
    cases fl with
    | ret u =>
      obtain ⟨v, H', I3, rv, ev, q3⟩ := I2.after hq'
      subst ev
      exact ⟨rv, ⟨V.ref (s.heap.objs.size + 1), H', I3, rfl, q3⟩⟩
    | next => exact False.elim hq'
    | brk => exact False.elim hq'
    | cont => exact False.elim hq'
theorem Rel.made {A : List Addr} {H : Hp} {m : Mem} {px dx : Addr} {c : Str} (R : Rel X.K g A H m) (h1 : H px = none) (h2 : H dx = none) (hne : dx ≠ px) :
    Stab X.K A H (A ++ [px]) (upd (upd H dx (.own px)) px (.ins (g.ca c) dx [])) ∧ Rel X.K g (A ++ [px]) (upd (upd H dx (.own px)) px (.ins (g.ca c) dx [])) (m ++ [.ins c []]) ∧ (A ++ [px])[m.length]? = some px := by
  obtain ⟨s1, r1⟩ := R.new (o := .own px) h2
  obtain ⟨s2, r2, e2⟩ := r1.alloc (p := px) (o := .ins (g.ca c) dx []) (c := .ins c []) (by rw [upd_ne (Ne.symm hne)]; exact h1) fun s => ⟨dx, [], upd_same, .nil⟩
  exact ⟨s1.trans s2, r2, e2⟩
theorem se_mk {k n : Nat} {cn : Str} {af : AF} (M : MkA X.prog X.w X.K X.mg X.base g k cn (n + 1) af) (hr : Room (k + 1) X.A) (ha : SA X g γ (e :: es) aa) (hla : aLen aa n) (hg : L2.Gl X cn := by rfl) (hdb : (cn == ("__debug__" : Str)) = false := by decide)
    (he : starEach (e :: es) X.env = (false, eval e X.env) :: starEach es X.env := by rfl) (hpl : (backTo pos (starEach es X.env)).any (·.1) = false := by rfl) : SE X g γ (.Call (.Name cn p) (e :: es) [] pos) (eMk cn af aa) := ⟨fun W tk => by
  obtain ⟨t, pa, q⟩ := ha.out W tk
  obtain ⟨f, fd, ps, M, hm, hb, F⟩ := M.ex
  refine ⟨fun σ H Q => t σ H fun vs H1 => ∀ x dx, H1 x = none → H1 dx = none → dx ≠ x → spOf X.K g (n + 1) af (.ref x :: vs) (upd (upd H1 dx (.own x)) x (.ins (g.ca cn) dx [])) (fun v H2 => v = .non ∧ Q (.ref x) H2) (WE W σ), ⟨fun pins s σ H Q I h => ?_⟩, fun σ env A H mem Q hg he hr hp => ?_⟩
  · refine wpAny_Call_Name_kw (ld_glob I hg hm ?_ hdb)
    refine PySem.W.callWith_K (h₀ := X.base) I.ok.mod.kin M.kp (thn (pa.run pos pins s σ H _ I h) fun us s1 ⟨vs, H1, I1, r, q⟩ => ⟨I1.kIn, ?_⟩) he hpl
    exact run_makeS M F hr hb (passAt tk σ) I1 r q
  · have key : ∀ ds m, aa env mem = .ok ds m → ds.length = n := fun ds m z => hla env mem ds m z
    unfold eMk at hp
    cases e1 : aa env mem with
    | ok ds m =>
      refine q σ env A H mem _ hg he hr ?_
      rw [e1] at hp ⊢
      intro vs A1 H1 s1 r1 rv px dx h1 h2 hne
      obtain ⟨s2, r2, e2⟩ := r1.made (c := cn) h1 h2 hne
      refine ⟨by simp [rv.length, key ds m e1], _, _, .ref m.length :: ds, r2, .cons (.ref e2) (rv.stab s2), ?_⟩
      have hp2 := Post.up (s1.trans s2) hp
      dsimp only [R.bind] at hp2
      cases e3 : af (.ref m.length :: ds) (m ++ [.ins cn []]) with
      | ok d m3 =>
        rw [e3] at hp2
        intro v A3 H3 s3 r3 rv3
        cases rv3 with
        | non => exact ⟨rfl, hp2 _ A3 H3 s3 r3 (.ref (pre_get s3.pre e2))⟩
        | _ => exact hp2.elim
      | er y m3 => rw [e3] at hp2; exact hp2
      | no => rw [e3] at hp2; exact hp2.elim
    | er y m =>
      refine q σ env A H mem _ hg he hr ?_
      rw [e1] at hp ⊢
      exact hp
    | no => rw [e1] at hp; exact hp.elim⟩

/-! ### a def that a value holds -/
def eCallV (disp : Str → Option (Nat × AF)) (f : AE) (aa : AA) : AE := fun env m => (f env m).bind fun d m => match d with
  | .fn x => match disp x with
    | some (n, af) => (aa env m).bind fun ds m => if ds.length = n then af ds m else .no
    | none => .no
  | _ => .no
theorem se_callV {k : Nat} {disp : Str → Option (Nat × AF)} (hD : ∀ x n af, disp x = some (n, af) → FnA X.prog X.w X.K X.mg X.base g k x n af) (hr : Room k X.A) (hf : SE X g γ o ia) (ha : SA X g γ (e :: es) aa)
    (hcv : eval (.Call o (e :: es) [] pos) X.env = (do callWith pos (← eval o X.env) [] (backTo pos (starEach (e :: es) X.env)) (backToKw pos (keywordEach [] X.env))) := by rfl)
    (he : starEach (e :: es) X.env = (false, eval e X.env) :: starEach es X.env := by rfl) (hpl : (backTo pos (starEach es X.env)).any (·.1) = false := by rfl) : SE X g γ (.Call o (e :: es) [] pos) (eCallV disp ia aa) := ⟨fun W tk => by
  obtain ⟨to, po, qo⟩ := hf.out W tk
  obtain ⟨t, pa, q⟩ := ha.out W tk
  refine ⟨fun σ H Q => to σ H fun v H1 => ∃ x n af, v = .ref (g.fa x) ∧ disp x = some (n, af) ∧ t σ H1 fun vs H2 => spOf X.K g n af vs H2 Q (WE W σ), ⟨fun pins s σ H Q I h => ?_⟩, fun σ env A H mem Q hg he hr hp => ?_⟩
  · refine PyProof.Rows.Call_ (thn (po.run pins s σ H _ I h) fun u s1 ⟨v, H1, I1, r1, x, n, af, ev, hd, ht⟩ => ?_) hcv
    subst ev
    obtain rfl : u = Value.ref (g.fa x) := r1
    obtain ⟨f, fd, ps, hm, hf, hk, hb, F⟩ := (hD x n af hd).ex
    rw [hf]
    refine PySem.W.callWith_K (h₀ := X.base) I.ok.mod.kin hk (thn (pa.run pos pins s1 σ H1 _ I1 ht) fun us s2 ⟨vs, H2, I2, r2, q2⟩ => ⟨I2.kIn, ?_⟩) he hpl
    exact run_fnS F hr hb (passAt tk σ) I2 r2 q2
  · refine qo σ env A H mem _ hg he hr (Post.bnd hp fun v A1 H1 d m s1 r1 rv p1 => ?_)
    cases rv with
    | fn x =>
      dsimp only at p1
      split at p1
      · rename_i n af e1
        refine ⟨x, n, af, rfl, e1, q σ env A1 H1 m _ (hg.pre s1.pre) (he.stab s1) r1 (Post.bnd p1 fun vs A2 H2 ds m2 s2 r2 rvs p2 => ?_)⟩
        split at p2
        · rename_i hl
          exact ⟨by rw [rvs.length]; exact hl, A2, m2, ds, r2, rvs, p2⟩
        · exact p2.elim
      · exact p1.elim
    | _ => exact p1.elim⟩
end
theorem hu65_of {A : Around} {k : Nat} (hr : Room k A) : A.units + 65 < cLine := by have := hr.un; omega
theorem bb_len : bootBuiltins "len" = some (.builtin "len") := by decide +kernel
theorem bb_abs : bootBuiltins "abs" = some (.builtin "abs") := by decide +kernel
theorem bb_sum : bootBuiltins "sum" = some (.builtin "sum") := by decide +kernel
theorem bb_min : bootBuiltins "min" = some (.builtin "min") := by decide +kernel
theorem bb_max : bootBuiltins "max" = some (.builtin "max") := by decide +kernel
theorem bb_sorted : bootBuiltins "sorted" = some (.builtin "sorted") := by decide +kernel
theorem bb_all : bootBuiltins "all" = some (.builtin "all") := by decide +kernel
theorem bb_any : bootBuiltins "any" = some (.builtin "any") := by decide +kernel
theorem bb_repr : bootBuiltins "repr" = some (.builtin "repr") := by decide +kernel
theorem bb_int : bootBuiltins "int" = some (.type "int") := by decide +kernel
theorem bb_bool : bootBuiltins "bool" = some (.type "bool") := by decide +kernel
theorem bb_str : bootBuiltins "str" = some (.type "str") := by decide +kernel
theorem bb_list : bootBuiltins "list" = some (.type "list") := by decide +kernel
theorem bb_tuple : bootBuiltins "tuple" = some (.type "tuple") := by decide +kernel
theorem bb_dict : bootBuiltins "dict" = some (.type "dict") := by decide +kernel
theorem bb_set : bootBuiltins "set" = some (.type "set") := by decide +kernel
end Ab
set_option Elab.async false
set_option linter.all false
set_option maxRecDepth 100000
set_option maxHeartbeats 2000000
namespace L2
open PySem PySem.Spec PyProof.Rows
section
variable {X : Cx}
/-- an exception without fields is let go -/
theorem mk_endN {pins : List (Addr × Obj)} {σ : St} {H1 H2 : Hp} {Q : XK} {hp hp2 h2 : Heap} {g1 g2 : Array GenState} {d1 d2 : Drawn} {t1 t2 : Nat} {os1 os2 : OsState} {a C : Addr} (T : Raises X (.ref C)) (I1 : Inv X pins σ H1 ⟨hp, g1, d1, t1, os1⟩)
    (ha : hp.objs.size ≤ a) (k : ∀ b o, hp.get? b = some o → hp2.get? b = some o) (un : Un (frs X.stack) [] (upd H1 a (exo a C none)) H2 hp2 h2) (hok : HOk X.prog X.w H2 h2) (ho : os2 = os1) (hb : AllBare g2)
    (ea : H2 a = some (exo a C none)) (q : Q (.ref C) none (del H2 a)) : MkP X pins σ Q (.ref a) ⟨h2, g2, d2, t2, os2⟩ := by
  obtain ⟨t0, hoe⟩ := exo_at hok ea
  have hn : H1 a = none := I1.hok.fresh ha
  obtain ⟨G, g1', g2'⟩ := restrict h2 fun b => decide (b ≠ a)
  have gk : ∀ b, b ≠ a → G.get? b = h2.get? b := fun b hb => g1' b (decide_eq_true hb)
  have ge : G.get? a = none := g2' a (by simp)
  have nha : ∀ {b : Addr} {o : Obj}, hp.get? b = some o → b ≠ a := fun {b o} z => Nat.ne_of_lt (Nat.lt_of_lt_of_le (Heap.lt_size z) ha)
  have up : ∀ {b : Addr}, b ≠ a → H1 b = none → upd H1 a (exo a C none) b = none := fun {b} hb n => by rw [upd_ne hb]; exact n
  have U : Un (frs X.stack) [] H1 (del H2 a) hp G := {
    keep := fun b o z n hf hx => by
      rw [gk b (nha z)]; exact un.keep b o (k b o z) (up (nha z) n) hf hx
    slot := fun b o z n hf hx => by
      rw [gk b (nha z)]; exact un.slot b o (k b o z) (up (nha z) n) hf hx
    free := fun b o z n hx => by
      rw [del_ne (nha z)]; exact un.free b o (k b o z) (up (nha z) n) hx
    there := fun b o z hx => by
      rw [gk b (nha z)]; exact un.there b o (k b o z) hx
    tups := fun b xs z => by
      rw [del_ne (ne_of_none z hn)]; exact un.tups b xs (by rw [upd_ne (ne_of_none z hn)]; exact z)
    frzs := fun b o v z => by
      rw [del_ne (ne_of_none z hn)]; exact un.frzs b o v (by rw [upd_ne (ne_of_none z hn)]; exact z)
    tbls := fun b ps z => by
      rw [del_ne (ne_of_none z hn)]; exact un.tbls b ps (by rw [upd_ne (ne_of_none z hn)]; exact z) }
  have hok3 : HOk X.prog X.w (del H2 a) G := fun b o z => by
    have hba : b ≠ a := fun e => by rw [e, del_same] at z; cases z
    rw [del_ne hba] at z
    have noa : ∀ {c : Addr}, H2 c = some (.own b) → c ≠ a := fun {c} hc => at_ne ea hc exo_own
    exact (hok b o z).stay (fun c v hc y => by
        have hca : c ≠ a := by
          rcases hc with hc | hc
          · rw [hc]; exact hba
          · exact noa hc
        rw [gk c hca]; exact y) (fun c hc => by rw [del_ne (noa hc)]; exact hc) (fun c xs hc => by rw [del_ne (at_ne ea hc exo_tup)]; exact hc)
  have J : Inv X pins σ (del H2 a) ⟨G, g2, d2, t2, os2⟩ := I1.call' (ch := []) ho U hok3 hb (fun b z => absurd z (by simp))
  exact ⟨a, _, _, ⟨G, g2, d2, t2, os2⟩, _, .ref C, none, rfl, J, fun b o q => by
    by_cases hba : b = a
    · rw [hba, ge] at q; cases q
    · exact (gk b hba).symm.trans q, ge, hoe, ⟨rfl, rfl⟩, rfl, rfl, del_same, rfl, hb, T, q⟩
/-- C(), C's own __init__ storing nothing -/
def tMkN (C : Addr) (sp : Sp) : St → Hp → XK → Prop := fun σ H Q => ∀ a, H a = none → sp [.ref a] (upd H a (exo a C none)) (fun v H2 => v = .non ∧ H2 a = some (exo a C none) ∧ Q (.ref C) none (del H2 a)) (fun _ _ _ => False)
theorem pmk_oexN {CX : CXT} {x : Str} {C fI : Addr} {k : Nat} {fd : FuncData} {ps : List Str} {sp : Sp} {p pos : Pos} (T : OexC X.K C) (iC : PySem.W.findIn X.K (.ref C) "__init__" = some (some (.ref fI))) (tI : PySem.W.typeIn X.K (.ref fI) = some (.type "function"))
    (F1 : FnOk X.prog X.w X.K X.mg X.base CX k fI fd ps sp) (hr : Room (k + 1) X.A) (hb : Binds X.K fd ps []) (hx : Passes CX X (fun _ _ _ => False)) (hg : Gl X x) (hm : X.mg x = some (.ref C)) (hdb : (x == ("__debug__" : Str)) = false := by decide) :
    PMk X (.Call (.Name x p) [] [] pos) (tMkN C sp) := by
  intro pins s σ H Q I h
  obtain ⟨nm, q, N, bs, bm, sn, sub, ab, col, dd, k0, k1, k2, k3, k5, hC, hbm⟩ := T.cls
  refine wpAny_Call_Name_kw (ld_glob I hg hm ?_ hdb)
  refine PySem.W.callWith_K0 I.kIn T.kC ?_
  show wpAny _ _ (call (.ref C) []) _ _ _
  obtain ⟨hp, g, dr, tk, os⟩ := s
  have hsz : hp.objs.size ≤ hp.objs.size + 1 := Nat.le_succ _
  have hn : H (hp.objs.size + 1) = none := I.hok.fresh hsz
  have hq := h (hp.objs.size + 1) hn
  have kk : ∀ b o, hp.get? b = some o → ((hp.push (PySem.W.kdv_tup [])).push (PySem.HandSPX.excO C hp.objs.size)).get? b = some o := fun b o e => Heap.get?_push_of_some _ (Heap.get?_push_of_some _ e)
  have hget : ((hp.push (PySem.W.kdv_tup [])).push (PySem.HandSPX.excO C hp.objs.size)).get? (hp.objs.size + 1) = some (PySem.HandSPX.excO C hp.objs.size) := by heap_get
  have I2 : Inv X pins σ (upd H (hp.objs.size + 1) (exo (hp.objs.size + 1) C none)) ⟨(hp.push (PySem.W.kdv_tup [])).push (PySem.HandSPX.excO C hp.objs.size), g, dr, tk, os⟩ :=
    I.laid (t' := tk) (a := hp.objs.size + 1) (o := exo (hp.objs.size + 1) C none) (h' := (hp.push (PySem.W.kdv_tup [])).push (PySem.HandSPX.excO C hp.objs.size)) kk hsz (exo_ok hget)
  have r2 : Vals [V.ref (hp.objs.size + 1)] [Value.ref (hp.objs.size + 1)] := .cons rfl .nil
  have hl : ([Value.ref (hp.objs.size + 1)] ++ []).length = ps.length := by
    have e := r2.length
    rw [F1.len _ _ _ _ hq] at e
    rw [List.append_nil]
    exact e.symm
  have hbd := hb _ [Value.ref (hp.objs.size + 1)] I2.kIn hl
  rw [List.append_nil] at hbd
  refine wpAny_call (PySem.HandSPX.call_own F.excBase_ValueError (fun Y => PySem.HandSPX.refsVE_contains Y bm hbm) (I.kIn _ _ hC) (PySem.W.looks_findIn I.kIn iC) (fun self => PySem.W.bind_fn I.kIn self tI) (Nat.zero_le _)
    (codeAny_mono (F1.run _ X.stack _ _ ⟨[Value.ref (hp.objs.size + 1)], []⟩ [Value.ref (hp.objs.size + 1)] _ _ (fun _ _ _ => False) (hr.make C [] []) (I2.env0.make C [] []) hbd r2 hq) fun r s' hq' => ?_))
  cases r with
  | error er => exact hx pins σ _ _ er s' I2 hq'
  | ok fl =>
    cases fl with
    | ret u =>
      obtain ⟨v, H2, os2, bare2, un2, hok2, rv, ev, ea, q2⟩ := hq'
      subst ev
      obtain ⟨h2, g2, d2, t2, os'⟩ := s'
      exact ⟨rv, mk_endN (raises_own T.exC T.tyC) I hsz kk un2 hok2 os2 bare2 ea q2⟩
    | next => exact False.elim hq'
    | brk => exact False.elim hq'
    | cont => exact False.elim hq'
end
/-- __init__ of an error: it stores nothing | one field -/
def spI0 : Sp := fun vs H Q _ => ∃ a, vs = [.ref a] ∧ Q .non H
def spI1 (K : PySem.W.Frag) (f : Str) : Sp := fun vs H Q _ => ∃ (a C : Addr) (y : V), vs = [.ref a, y] ∧ OexC K C ∧ PySem.W.findIn K (.ref C) f = some none ∧ H a = some (exo a C none) ∧ ∀ dx, H dx = none → dx ≠ a → Q .non (upd (upd H dx (exd dx [(f, y)])) a (exo a C (some dx)))
section
variable {P : Program} {w : World} {K : PySem.W.Frag} {mg : Str → Option Value} {base : Heap}
theorem init0 {qual : Str} {st : Stmt} {f : Addr} {fd : FuncData} (F : Fun K "__init__" qual st f fd) (S : FnScope ["self"] ["self"] (defScope st)) (hb : ∃ p, defBody st = [.Pass p]) : FnOk P w K mg base CX0 1 f fd ["self"] spI0 :=
  F.ok S (fun vs H Q E h => by obtain ⟨a, rfl, _⟩ := h; rfl) fun cdv A outer s H vs Q E hr h => by
    obtain ⟨p, e⟩ := hb
    rw [e]
    obtain ⟨a, rfl, q⟩ := h
    exact ⟨_, pss_one ps_pass, q⟩
theorem init1 {qual : Str} {st : Stmt} {f : Addr} {fd : FuncData} {x : Str} (F : Fun K "__init__" qual st f fd) (S : FnScope ["self", x] ["self", x] (defScope st))
    (hb : ∀ cdv A outer s H E, PSs (cxOf CX0 P w K mg base ["self", x] qual (defScope st) f cdv A outer s H E).nox (defBody st) (tOst K x (tVar 0) (tVar 1))) : FnOk P w K mg base CX0 1 f fd ["self", x] (spI1 K x) :=
  F.ok S (fun vs H Q E h => by obtain ⟨a, C, y, rfl, _⟩ := h; rfl) fun cdv A outer s H vs Q E hr h => by
    obtain ⟨a, C, y, rfl, T, hno, ha, q⟩ := h
    exact ⟨_, hb cdv A outer s H E, _, rfl, _, rfl, a, C, rfl, T, hno, .inl ⟨ha, fun dx n ne => q dx n ne⟩⟩
end
end L2
namespace Ab
open PySem PySem.Spec PyProof.Rows L2
/-! ### errors of the text -/
structure Er0 (P : Program) (w : World) (K : PySem.W.Frag) (mg : Str → Option Value) (base : Heap) (g : Glb) (c : Str) : Prop where
  ex : ∃ fI fd, OexC K (g.ca c) ∧ mg c = some (.ref (g.ca c)) ∧ PySem.W.findIn K (.ref (g.ca c)) "__init__" = some (some (.ref fI)) ∧ PySem.W.typeIn K (.ref fI) = some (.type "function") ∧ Binds K fd ["self"] [] ∧ FnOk P w K mg base CX0 1 fI fd ["self"] spI0
structure Er1 (P : Program) (w : World) (K : PySem.W.Frag) (mg : Str → Option Value) (base : Heap) (g : Glb) (c x : Str) : Prop where
  ex : ∃ fI fd, OexC K (g.ca c) ∧ mg c = some (.ref (g.ca c)) ∧ PySem.W.findIn K (.ref (g.ca c)) "__init__" = some (some (.ref fI)) ∧ PySem.W.typeIn K (.ref fI) = some (.type "function") ∧ PySem.W.findIn K (.ref (g.ca c)) x = some none ∧ Binds K fd ["self", x] [] ∧ FnOk P w K mg base CX0 1 fI fd ["self", x] (spI1 K x)
def sRaise0 (c : Str) : AS := fun e m => .er ⟨c, none⟩ e m
def sRaise1 (c x : Str) (a : AE) : AS := fun e m => (a e m).o e fun d m => .er ⟨c, some m.length⟩ e (m ++ [.xd [(x, d)]])
section
variable {X : Cx} {g : Glb} {γ : Gam} {e : Expr} {ia : AE} {p pos pos2 : Pos} {c x : Str}
theorem ss_raise0 (T : Er0 X.prog X.w X.K X.mg X.base g c) (hc : X.calm = true) (hr : Room 2 X.A) (hg : L2.Gl X c := by rfl) (hdb : (c == ("__debug__" : Str)) = false := by decide) : SS X g γ (.Raise (some (.Call (.Name c p) [] [] pos)) none pos2) (sRaise0 c) := ⟨fun W tk => by
  obtain ⟨fI, fd, T, hm, iC, tI, hb, F⟩ := T.ex
  refine ⟨_, ps_raise hc tk (pmk_oexN T iC tI F hr hb pass0 hg hm hdb), fun σ env A H mem E hgm he hr hp => ?_⟩
  intro a hn
  refine ⟨a, rfl, rfl, upd_same, ?_⟩
  have e1 : L2.del (upd H a (exo a (g.ca c) none)) a = H := by
    funext b
    by_cases z : b = a
    · rw [z, del_same, hn]
    · rw [del_ne z, upd_ne z]
  rw [e1]
  exact hp _ none σ A H .refl hr he ⟨rfl, rfl⟩⟩
theorem ss_raise1 (T : Er1 X.prog X.w X.K X.mg X.base g c x) (hc : X.calm = true) (hr : Room 2 X.A) (ha : SE X g γ e ia) (hg : L2.Gl X c := by rfl) (hdb : (c == ("__debug__" : Str)) = false := by decide)
    (hs : starEach (e :: []) X.env = (false, eval e X.env) :: starEach [] X.env := by rfl) (hpl : (backTo pos (starEach [] X.env)).any (·.1) = false := by rfl) : SS X g γ (.Raise (some (.Call (.Name c p) [e] [] pos)) none pos2) (sRaise1 c x ia) := ⟨fun W tk => by
  obtain ⟨fI, fd, T, hm, iC, tI, hno, hb, F⟩ := T.ex
  obtain ⟨t, pe, q⟩ := ha.out W tk
  refine ⟨_, ps_raise hc tk (pmk_oex T iC tI F hr hb .nil pass0 hg hm (pa_cons pe pa_nil hs) hdb hs hpl), fun σ env A H mem E hgm he hr hp => ?_⟩
  refine q σ env A H mem _ hgm he hr (PostS.of (rl := Rep X.K g) he hp fun v A1 H1 d m s1 r1 rv p1 => ?_)
  refine ⟨by show 1 ≤ 1000; decide, fun a hn => ?_⟩
  refine ⟨a, g.ca c, v, rfl, T, hno, upd_same, fun dx hdx hne => ?_⟩
  have hd1 : H1 dx = none := by rw [upd_ne hne] at hdx; exact hdx
  refine ⟨rfl, dx, [(x, v)], upd_same, by rw [upd_ne hne]; exact upd_same, hd1, ?_⟩
  have e1 : upd (L2.del (upd (upd (upd H1 a (exo a (g.ca c) none)) dx (exd dx [(x, v)])) a (exo a (g.ca c) (some dx))) a) dx (.xd [(x, v)]) = upd H1 dx (.xd [(x, v)]) := by
    funext b
    by_cases z : b = dx
    · rw [z, upd_same, upd_same]
    · rw [upd_ne z, upd_ne z]
      by_cases y : b = a
      · rw [y, del_same, hn]
      · rw [del_ne y, upd_ne y, upd_ne z, upd_ne y]
  rw [e1]
  obtain ⟨s2, r2, e2⟩ := r1.alloc (o := .xd [(x, v)]) (c := .xd [(x, d)]) hd1 fun s => ⟨_, upd_same, .cons (rv.stab s) .nil⟩
  exact p1 _ (some dx) σ _ _ s2 r2 (he.stab (s1.trans s2)) ⟨rfl, dx, rfl, e2⟩⟩

/-! ### try -/
def sTry (xs : Str → Str → Option Bool) (h : Str) (i : Nat) (body : AS) (suite : Nat → Ex → AS) : AS := fun env m => match body env m with
  | .er x e m => match xs x.c h with
    | some true => match suite m.length x (e.set i (some (.ref m.length))) (m ++ [.exc]) with
      | .nx e m => .nx (e.set i none) m
      | .bk e m => .bk (e.set i none) m
      | .ct e m => .ct (e.set i none) m
      | .rt d m => .rt d m
      | _ => .no
    | some false => .er x e m
    | none => .no
  | o => o
theorem Rel.exc {A : List Addr} {H : Hp} {m : Mem} {a : Addr} (R : Rel X.K g A H m) : Stab X.K A H (A ++ [a]) H ∧ Rel X.K g (A ++ [a]) H (m ++ [.exc]) ∧ (A ++ [a])[m.length]? = some a := by
  have s : Stab X.K A H (A ++ [a]) H := ⟨⟨[a], rfl⟩, fun _ _ h => h⟩
  refine ⟨s, ⟨by simp [R.len], fun i j b y z h1 h2 h3 h4 t1 t2 => ?_, fun i b y h1 h2 => ?_⟩, by rw [← R.len]; simp⟩
  · rcases snoc_get h3 with ⟨l3, h3⟩ | ⟨l3, rfl⟩
    · rcases snoc_get h4 with ⟨l4, h4⟩ | ⟨l4, rfl⟩
      · rcases snoc_get h1 with ⟨_, h1⟩ | ⟨l1, _⟩
        · rcases snoc_get h2 with ⟨_, h2⟩ | ⟨l2, _⟩
          · exact R.inj i j b y z h1 h2 h3 h4 t1 t2
          · exfalso; have := R.len; omega
        · exfalso; have := R.len; omega
      · cases t2
    · cases t1
  · rcases snoc_get h2 with ⟨l2, h2⟩ | ⟨l2, rfl⟩
    · rcases snoc_get h1 with ⟨_, h1⟩ | ⟨l1, _⟩
      · have hr := R.cell _ _ _ h1 h2
        exact hr.stab s (fun _ e => e) (fun _ e => e) (fun _ e => e) (fun _ _ _ e => e) (fun _ e => e) (fun _ e => e)
      · exfalso; have := R.len; omega
    · trivial
/-- what the suite knows of the error: x, at place n -/
structure Caught (g : Glb) (x : Ex) (cls : Value) (d : Option Addr) : Prop where
  cls : cls = .ref (g.ca x.c)
  non : x.d = none → d = none
theorem ss_try {xs : Str → Str → Option Bool} {h n : Str} {i : Nat} {body suite : List Stmt} {b₀ : Stmt} {np pos' : Pos} {ib : AS} {is : Nat → Ex → AS} {cv : Value} (hX : ∀ c b, xs c h = some b → PySem.W.exmOne X.K (.ref (g.ca c)) cv = some b)
    (hs : X.stack = X.env :: X.outer) (hf : X.env.frame = some X.env.locals) (hN : X.N.Nodup) (hc : Names X h cv)
    (hb : ∀ (pn : List (Addr × Obj)) (xe : Value → Shared → Prop), PassesOwn (model X.prog X.w) X.A X.env xe → SSs (X.tr pn xe) g [] body ib)
    (hsu : ∀ (k : Nat) (x : Ex) (a : Addr) (oe : Obj) (cls : Value) (d : Option Addr) (pn : List (Addr × Obj)), Zc cls d oe → (∃ vs, oe.data = .fields vs) → Caught g x cls d → SSs (X.suite a ((a, oe) :: pn)) g [(k, a)] (b₀ :: suite) (is k x))
    (hi : X.N[i]? = some n := by rfl) (hln : X.env.kindOf n = some .local := by rfl) :
    SS X g [] (.Try body [.ExceptHandler (some (.Name h np)) (some n) (b₀ :: suite) pos'] [] [] pos) (sTry xs h i ib is) := ⟨fun W tk => by
  refine ⟨_, ps_try_as (tb := fun W => rdS X.K g [] ib W) (ts := fun a cls d E σ H => ∃ (k : Nat) (x : Ex), Caught g x cls d ∧ rdS X.K g [(k, a)] (is k x) (fun _ _ _ _ => False) E σ H) hs hf hN hi hln hc tk (fun W pn xe tk2 ho => (hb pn xe ho).uni tk2) (fun a oe cls d pn hz hfl => ⟨fun pins s σ H E I hq => ?_⟩), fun σ env A H mem E hg he hr hp => ?_⟩
  · obtain ⟨k, x, hca, rd⟩ := hq
    exact ((hsu k x a oe cls d pn hz hfl hca).uni (W := fun _ _ _ _ => False) takes0).run pins s σ H E I rd
  · refine ⟨env, A, mem, hg, he, hr, ?_⟩
    unfold sTry at hp
    cases e1 : ib env mem with
    | nx e2 m2 => rw [e1] at hp; exact hp
    | rt e2 m2 => rw [e1] at hp; exact hp
    | bk e2 m2 => rw [e1] at hp; exact hp
    | ct e2 m2 => rw [e1] at hp; exact hp
    | no => rw [e1] at hp; exact hp
    | er x e2 m2 =>
      rw [e1] at hp
      dsimp only at hp
      intro c dd σ2 A2 H2 s2 r2 er2 ex
      obtain ⟨rfl, exd⟩ := ex
      cases e3 : xs x.c h with
      | none => rw [e3] at hp; exact hp.elim
      | some b =>
        rw [e3] at hp
        refine ⟨b, hX _ _ e3, fun hbt a hna => ?_, fun hbf => ?_⟩
        · subst hbt
          dsimp only at hp
          have hca : Caught g x (.ref (g.ca x.c)) dd := ⟨rfl, fun z => by rw [z] at exd; exact exd⟩
          obtain ⟨s3, r3, e4⟩ := r2.exc (a := a)
          refine ⟨m2.length, x, hca, _, _, _, fun q hq => ?_, (er2.stab s3).set i (.ref e4), r3, ?_⟩
          · rw [List.mem_singleton.mp hq]; exact e4
          · cases e5 : is m2.length x (e2.set i (some (.ref m2.length))) (m2 ++ [.exc]) with
            | nx e6 m6 => rw [e5] at hp; exact fun σ7 A7 H7 s7 r7 er7 => hp _ A7 H7 (s2.trans (s3.trans s7)) r7 (er7.drop i none)
            | bk e6 m6 => rw [e5] at hp; exact fun σ7 A7 H7 s7 r7 er7 => hp _ A7 H7 (s2.trans (s3.trans s7)) r7 (er7.drop i none)
            | ct e6 m6 => rw [e5] at hp; exact fun σ7 A7 H7 s7 r7 er7 => hp _ A7 H7 (s2.trans (s3.trans s7)) r7 (er7.drop i none)
            | rt e6 m6 => rw [e5] at hp; exact fun σ7 A7 H7 s7 r7 er7 => hp _ A7 H7 (s2.trans (s3.trans s7)) r7 er7
            | er y e6 m6 => rw [e5] at hp; exact hp.elim
            | no => rw [e5] at hp; exact hp.elim
        · subst hbf
          dsimp only at hp
          exact hp _ dd σ2 A2 H2 s2 r2 er2 ⟨rfl, exd⟩⟩
/-- isinstance(e, C), e the caught error, that has no fields -/
def eIsX (i k : Nat) (b : Option Bool) : AE := fun env m => match env[i]? with
  | some (some (.ref n)) => if n = k then match b with
    | some b => .ok (.bl b) m
    | none => .no
    else .no
  | _ => .no
theorem se_isX {a : Addr} {oe : Obj} {cls : Value} {d : Option Addr} {pn : List (Addr × Obj)} {x : Ex} {k i : Nat} {n : Str} {cE : Expr} {cv : V} {cu : Value} {ob : Option Bool} (hz : Zc cls d oe) (hf : ∃ vs, oe.data = .fields vs) (hca : Caught g x cls d) (hm : X.mg "isinstance" = none)
    (hxd : ∀ b, ob = some b → x.d = none ∧ ExcC X.K (g.ca x.c) ∧ PySem.W.kitOne X.K (.ref (g.ca x.c)) cu = some b) (hcE : PE (X.suite a ((a, oe) :: pn)) cE (tC cv)) (hcu : ∀ u, RelV cv u → u = cu) (he : SE (X.suite a ((a, oe) :: pn)) g [(k, a)] e (eVar i)) (hpe : PE (X.suite a ((a, oe) :: pn)) e (tVar i))
    (hg : L2.Gl X "isinstance" := by rfl) (hvi : bootBuiltins "isinstance" = some (.builtin "isinstance") := by decide +kernel)
    (hs : starEach [e, cE] X.env = (false, eval e X.env) :: starEach [cE] X.env := by rfl) (hpl : (backTo pos (starEach [cE] X.env)).any (·.1) = false := by rfl) (hs2 : starEach [cE] X.env = (false, eval cE X.env) :: starEach [] X.env := by rfl) :
    SE (X.suite a ((a, oe) :: pn)) g [(k, a)] (.Call (.Name "isinstance" p) [e, cE] [] pos) (eIsX i k ob) := ⟨fun W tk => by
  cases ob with
  | none => exact ⟨_, (⟨fun pins s σ H Q I h => False.elim h⟩ : PE _ _ (fun _ _ _ => False)), fun σ env A H mem Q hgm her hr hp => by
      unfold eIsX at hp
      split at hp
      · split at hp
        · exact hp
        · exact hp
      · exact hp⟩
  | some b =>
    obtain ⟨hd, hE, hk⟩ := hxd b rfl
    obtain ⟨rfl, hdd⟩ := hca
    have := hdd hd
    subst this
    refine ⟨_, pe_callB (X := X.suite a ((a, oe) :: pn)) (call_isE hE hz hf) hg hm hvi (pa_cons hpe (pa_cons hcE pa_nil hs2) hs) (by decide) (by decide) hs hpl, fun σ env A H mem Q hgm her hr hp => ?_⟩
    unfold eIsX at hp
    split at hp
    · rename_i n hn
      split at hp
      · rename_i ek
        subst ek
        obtain ⟨v, h1, h2⟩ := her.2 i _ hn
        cases h2 with
        | @ref _ a' ha' =>
          have ea : A[n]? = some a := hgm (n, a) (List.mem_singleton.mpr rfl)
          rw [ea] at ha'
          cases ha'
          exact ⟨_, h1, cv, cu, b, rfl, hcu, hk, hp _ A H .refl hr (.bl b)⟩
      · exact hp.elim
    · exact hp.elim⟩
end
end Ab
set_option Elab.async false
set_option linter.all false
set_option maxRecDepth 100000
namespace Ab
open PySem PySem.Spec PyProof.Rows L2
/-! ### a, b = x, y -/
def sPar2 (i j : Nat) (aa : AA) : AS := fun e m => (aa e m).o e fun ds m => match ds with
  | [x, y] => .nx ((e.set i (some x)).set j (some y)) m
  | _ => .no
def sPar3 (i j l : Nat) (aa : AA) : AS := fun e m => (aa e m).o e fun ds m => match ds with
  | [x, y, z] => .nx (((e.set i (some x)).set j (some y)).set l (some z)) m
  | _ => .no
section
variable {X : Cx} {g : Glb} {γ : Gam} {a b c : Expr} {aa : AA} {pos px py pz pt : Pos} {x y z : Str} {i j l : Nat} {kt k2 pt2}
theorem ss_par2 (hc : X.calm = true) (hN : X.N.Nodup) (hi : X.N[i]? = some x) (hj : X.N[j]? = some y) (ha : SA X g γ [a, b] aa) (hij : i ≠ j)
    (hx : X.env.scope.names.lookup x = some .local) (hy : X.env.scope.names.lookup y = some .local)
    (hw : swappedStores [.Tuple [.Name x px, .Name y py] kt pt] (.Tuple [a, b] k2 pt2) X.env = pure (some [x, y]))
    (hs : swapsWithSole [.Tuple [.Name x px, .Name y py] kt pt] (.Tuple [a, b] k2 pt2) pos.line X.env = pure false := by rfl) :
    SS X g γ (.Assign [.Tuple [.Name x px, .Name y py] kt pt] (.Tuple [a, b] k2 pt2) pos) (sPar2 i j aa) := ⟨fun W tk => by
  obtain ⟨t, pa, q⟩ := ha.out W tk
  refine ⟨_, ps_par hc hN hi hj hij hx hy pa hw hs, fun σ env A H mem E hg he hr hp => ?_⟩
  refine q σ env A H mem _ hg he hr (PostS.of (rl := RepL X.K g) he hp fun vs A1 H1 ds m s1 r1 rv p => ?_)
  split at p
  · cases rv with
    | cons r2 rt =>
      cases rt with
      | cons r3 rt =>
        cases rt
        exact ⟨_, _, rfl, p _ A1 H1 .refl r1 (((he.stab s1).set i r2).set j r3)⟩
  · exact p.elim⟩
theorem ss_par3 (hc : X.calm = true) (hN : X.N.Nodup) (hi : X.N[i]? = some x) (hj : X.N[j]? = some y) (hl : X.N[l]? = some z) (ha : SA X g γ [a, b, c] aa) (hij : i ≠ j) (hil : i ≠ l) (hjl : j ≠ l)
    (hx : X.env.scope.names.lookup x = some .local) (hy : X.env.scope.names.lookup y = some .local) (hz : X.env.scope.names.lookup z = some .local)
    (hw : swappedStores [.Tuple [.Name x px, .Name y py, .Name z pz] kt pt] (.Tuple [a, b, c] k2 pt2) X.env = pure (some [x, y, z]))
    (hs : swapsWithSole [.Tuple [.Name x px, .Name y py, .Name z pz] kt pt] (.Tuple [a, b, c] k2 pt2) pos.line X.env = pure false := by rfl) :
    SS X g γ (.Assign [.Tuple [.Name x px, .Name y py, .Name z pz] kt pt] (.Tuple [a, b, c] k2 pt2) pos) (sPar3 i j l aa) := ⟨fun W tk => by
  obtain ⟨t, pa, q⟩ := ha.out W tk
  refine ⟨_, ps_par3 hc hN hi hj hl hij hil hjl hx hy hz pa hw hs, fun σ env A H mem E hg he hr hp => ?_⟩
  refine q σ env A H mem _ hg he hr (PostS.of (rl := RepL X.K g) he hp fun vs A1 H1 ds m s1 r1 rv p => ?_)
  split at p
  · cases rv with
    | cons r2 rt =>
      cases rt with
      | cons r3 rt =>
        cases rt with
        | cons r4 rt =>
          cases rt
          exact ⟨_, _, _, rfl, p _ A1 H1 .refl r1 ((((he.stab s1).set i r2).set j r3).set l r4)⟩
  · exact p.elim⟩
end
end Ab
set_option Elab.async false
set_option linter.all false
set_option maxRecDepth 100000
namespace Ab
open PySem PySem.Spec PyProof.Rows L2
/-! ### what the top has written, class by class, def by def -/
def gOf (mg : Str → Option Value) : Glb := ⟨fun x => match mg x with | some (.ref a) => a | _ => 0, fun x => match mg x with | some (.ref a) => a | _ => 0⟩
theorem gOf_fa {mg : Str → Option Value} {x : Str} {a : Addr} (h : mg x = some (.ref a)) : (gOf mg).fa x = a := by unfold gOf; dsimp only; rw [h]
theorem gOf_ca {mg : Str → Option Value} {x : Str} {a : Addr} (h : mg x = some (.ref a)) : (gOf mg).ca x = a := by unfold gOf; dsimp only; rw [h]
section
variable {P : Program} {w : World} {K : PySem.W.Frag} {mg : Str → Option Value} {base h : Heap} {x c d qual f : Str} {st : Stmt} {k n : Nat} {af : AF} {b : Bool} {T : String}
structure DefIn (K : PySem.W.Frag) (x qual : Str) (st : Stmt) : Prop where
  ex : ∃ f fd, PySem.W.nsIn K mainGlobals x = some (some (.ref f)) ∧ Fun K x qual st f fd
theorem def_in {f : Addr} {oc : Value} {od an : Option Addr} {osl : Array (Option Value)} {kV doc pm cdv ct : Value} (a : PySem.W.nsIn K mainGlobals x = some (some (.ref f)))
    (l : K.lookup f = some ⟨oc, od, .func (PySem.W.fnOf x qual (defArgs st) (defBody st) (defScope st) .none kV doc pm an cdv ct), osl⟩)
    (cd : PySem.W.codeIn K cdv qual = true) (kp : PySem.W.keepIn K (.ref f) = true) : DefIn K x qual st := ⟨f, _, a, fun_mk l cd kp⟩
theorem fnA_of (X : K.In h) (G : h.Ns mainGlobals mg) (D : DefIn K x qual st) {ps : List Str} (hb : ∀ f fd, Fun K x qual st f fd → Binds K fd ps [])
    (ok : ∀ f fd, Fun K x qual st f fd → FnOk P w K mg base (L2.CX P w) k f fd ps (spOf K (gOf mg) n af)) : FnA P w K mg base (gOf mg) k x n af := by
  obtain ⟨f, fd, e, F⟩ := D.ex
  have hm := PySem.W.mg_of X G e
  exact ⟨f, fd, ps, hm, gOf_fa hm, F.kp, hb f fd F, ok f fd F⟩
theorem bindsA {x qual : Str} {st : Stmt} {f : Addr} {fd : FuncData} {p : Str} (F : Fun K x qual st f fd) (s : Shared) (v : Value) (e : ∀ (kV doc pm : Value) (an : Option Addr) (cdv ct : Value), bindArgs (PySem.W.fnOf x qual (defArgs st) (defBody st) (defScope st) .none kV doc pm an cdv ct) ⟨[v], []⟩ = pure [(p, v)]) : BindsTo s fd ⟨[v], []⟩ [(p, v)] := by
  obtain ⟨oc, od, kV, doc, pm, an, cdv, ct, osl, rfl, _, _⟩ := F.ex
  exact .of_eq (e kV doc pm an cdv ct)
structure ClsIn (K : PySem.W.Frag) (c qual : Str) (st : Stmt) : Prop where
  ex : ∃ C f fd, PySem.W.nsIn K mainGlobals c = some (some (.ref C)) ∧ Cls K C ∧ Mk K C f ∧ Fun K "__init__" qual st f fd
theorem cls_in {C f : Addr} {oc : Value} {od an : Option Addr} {osl : Array (Option Value)} {kV doc pm cdv ct : Value} (aC : PySem.W.nsIn K mainGlobals c = some (some (.ref C)))
    (pg : PySem.W.plainGet K C Str.empty = true) (hd : PySem.W.hasDictIn K C = true) (po : PySem.W.plainOver K C = true) (sa : PySem.W.findIn K (.ref C) "__setattr__" = some (some (.builtin "object.__setattr__")))
    (mk : PySem.W.makesIn K C = true) (kc : PySem.W.keepIn K (.ref C) = true) (a1 : PySem.W.findIn K (.ref C) "__init__" = some (some (.ref f))) (i1 : PySem.W.isFn K (.ref f) = true)
    (l : K.lookup f = some ⟨oc, od, .func (PySem.W.fnOf "__init__" qual (defArgs st) (defBody st) (defScope st) .none kV doc pm an cdv ct), osl⟩)
    (cd : PySem.W.codeIn K cdv qual = true) (kp : PySem.W.keepIn K (.ref f) = true) : ClsIn K c qual st :=
  ⟨C, f, _, aC, ⟨pg, hd, po, sa⟩, ⟨mk, a1, i1, kc⟩, fun_mk l cd kp⟩
theorem ClsIn.cls (X : K.In h) (G : h.Ns mainGlobals mg) (D : ClsIn K c qual st) : Cls K ((gOf mg).ca c) := by
  obtain ⟨C, f, fd, e, h1, _⟩ := D.ex
  rw [gOf_ca (PySem.W.mg_of X G e)]
  exact h1
theorem mkA_of (X : K.In h) (G : h.Ns mainGlobals mg) (D : ClsIn K c qual st) {ps : List Str} (hb : ∀ f fd, Fun K "__init__" qual st f fd → Binds K fd ps [])
    (ok : ∀ f fd, Fun K "__init__" qual st f fd → FnOk P w K mg base (L2.CX P w) k f fd ps (spOf K (gOf mg) n af)) : MkA P w K mg base (gOf mg) k c n af := by
  obtain ⟨C, f, fd, e, h1, h2, F⟩ := D.ex
  have hm := PySem.W.mg_of X G e
  have e2 := gOf_ca hm
  refine ⟨f, fd, ps, ?_, ?_, hb f fd F, ok f fd F⟩
  · rw [e2]; exact h2
  · rw [e2]; exact hm
structure NoIn (K : PySem.W.Frag) (c f : Str) : Prop where
  ex : ∃ C, PySem.W.nsIn K mainGlobals c = some (some (.ref C)) ∧ PySem.W.findIn K (.ref C) f = some none
theorem no_in {C : Addr} (aC : PySem.W.nsIn K mainGlobals c = some (some (.ref C))) (a : PySem.W.findIn K (.ref C) f = some none) : NoIn K c f := ⟨C, aC, a⟩
theorem NoIn.no (X : K.In h) (G : h.Ns mainGlobals mg) (D : NoIn K c f) : NoAttr K ((gOf mg).ca c) f := by
  obtain ⟨C, e, h1⟩ := D.ex
  rw [gOf_ca (PySem.W.mg_of X G e)]
  exact h1
theorem g_of {C : Addr} (X : K.In h) (G : h.Ns mainGlobals mg) (e : PySem.W.nsIn K mainGlobals c = some (some (.ref C))) : mg c = some (.ref ((gOf mg).ca c)) := by
  have hm := PySem.W.mg_of X G e
  rw [gOf_ca hm]; exact hm
structure ErrIn (K : PySem.W.Frag) (c qual : Str) (st : Stmt) : Prop where
  ex : ∃ C f fd, PySem.W.nsIn K mainGlobals c = some (some (.ref C)) ∧ OexC K C ∧ ExcC K C ∧ PySem.W.findIn K (.ref C) "__init__" = some (some (.ref f)) ∧ PySem.W.typeIn K (.ref f) = some (.type "function") ∧ Fun K "__init__" qual st f fd
theorem err_in {C f : Addr} {oc : Value} {od an : Option Addr} {osl : Array (Option Value)} {kV doc pm cdv ct : Value}
    {nm q : Str} {N : Addr} {bs bm : List Value} {sn : List Str} {sub : List Value} {ab : Bool} {col : Option Bool} {dd : Option Addr} {m0 m1 m2 m3 m5 : Option Value} (aC : PySem.W.nsIn K mainGlobals c = some (some (.ref C)))
    (xL : K.lookup C = some (excClassObj nm q C N bs bm true sn sub ab col dd m0 m1 m2 m3 m5 "ValueError.__new__"))
    (sa : PySem.W.findIn K (.ref C) "__setattr__" = some (some (.builtin "object.__setattr__"))) (eC : PySem.W.subIn K (.ref C) (.type "BaseException") = some true) (tC : PySem.W.typeIn K (.ref C) = some (.type "type")) (kC : PySem.W.keepIn K (.ref C) = true)
    (ga : PySem.W.findIn K (.ref C) "__getattribute__" = some (some (.builtin "BaseException.__getattribute__"))) (gg : PySem.W.findIn K (.ref C) "__getattr__" = some none) (hC : PySem.W.hasDictIn K C = true)
    (gc : PySem.W.findIn K (.ref C) "__class__" = some (some (.builtin "object.__class__"))) (gs : PySem.W.specialIn K (.builtin "object.__class__") "__get__" = some (some (.builtin "getset_descriptor.__get__"))) (gt : PySem.W.takesIn K (.builtin "object.__class__") = some true) (gm : PySem.W.mroIn K C (.type "object") = some true)
    (a1 : PySem.W.findIn K (.ref C) "__init__" = some (some (.ref f))) (i1 : PySem.W.typeIn K (.ref f) = some (.type "function"))
    (l : K.lookup f = some ⟨oc, od, .func (PySem.W.fnOf "__init__" qual (defArgs st) (defBody st) (defScope st) .none kV doc pm an cdv ct), osl⟩)
    (cd : PySem.W.codeIn K cdv qual = true) (kp : PySem.W.keepIn K (.ref f) = true) (hbm : PySem.HandSPX.refsVE bm = true) : ErrIn K c qual st :=
  ⟨C, f, _, aC, ⟨⟨nm, q, N, bs, bm, sn, sub, ab, col, dd, m0, m1, m2, m3, m5, xL, hbm⟩, sa, eC, tC, kC⟩, ⟨ga, gg, eC, hC, gc, gs, gt, gm⟩, a1, i1, fun_mk l cd kp⟩
theorem ErrIn.g (X : K.In h) (G : h.Ns mainGlobals mg) (D : ErrIn K c qual st) : mg c = some (.ref ((gOf mg).ca c)) := by
  obtain ⟨C, f, fd, e, _⟩ := D.ex
  exact g_of X G e
theorem ErrIn.exc (X : K.In h) (G : h.Ns mainGlobals mg) (D : ErrIn K c qual st) : ExcC K ((gOf mg).ca c) := by
  obtain ⟨C, f, fd, e, _, h1, _⟩ := D.ex
  rw [gOf_ca (PySem.W.mg_of X G e)]
  exact h1
theorem ErrIn.er0 (X : K.In h) (G : h.Ns mainGlobals mg) (D : ErrIn K c qual st) (hb : ∀ f fd, Fun K "__init__" qual st f fd → Binds K fd ["self"] []) (S : FnScope ["self"] ["self"] (defScope st)) (hp : ∃ p, defBody st = [.Pass p]) : Er0 P w K mg base (gOf mg) c := by
  obtain ⟨C, f, fd, e, h1, _, h2, h3, F⟩ := D.ex
  have hm := PySem.W.mg_of X G e
  have e2 := gOf_ca hm
  refine ⟨f, fd, ?_, ?_, ?_, h3, hb f fd F, init0 F S hp⟩
  · rw [e2]; exact h1
  · rw [e2]; exact hm
  · rw [e2]; exact h2
theorem ErrIn.er1 (X : K.In h) (G : h.Ns mainGlobals mg) (D : ErrIn K c qual st) (N : NoIn K c f) (hb : ∀ a fd, Fun K "__init__" qual st a fd → Binds K fd ["self", f] []) (S : FnScope ["self", f] ["self", f] (defScope st))
    (hp : ∀ a cdv A outer s H E, PSs (cxOf CX0 P w K mg base ["self", f] qual (defScope st) a cdv A outer s H E).nox (defBody st) (tOst K f (tVar 0) (tVar 1))) : Er1 P w K mg base (gOf mg) c f := by
  obtain ⟨C, a, fd, e, h1, _, h2, h3, F⟩ := D.ex
  have hm := PySem.W.mg_of X G e
  have e2 := gOf_ca hm
  have n := N.no X G
  rw [e2] at n
  refine ⟨a, fd, ?_, ?_, ?_, h3, ?_, hb a fd F, init1 F S (hp a)⟩
  · rw [e2]; exact h1
  · rw [e2]; exact hm
  · rw [e2]; exact h2
  · rw [e2]; exact n
structure ExmIn (K : PySem.W.Frag) (c d : Str) (b : Bool) : Prop where
  ex : ∃ C D, PySem.W.nsIn K mainGlobals c = some (some (.ref C)) ∧ PySem.W.nsIn K mainGlobals d = some (some (.ref D)) ∧ PySem.W.exmOne K (.ref C) (.ref D) = some b ∧ PySem.W.kitOne K (.ref C) (.ref D) = some b
theorem exm_in {C D : Addr} (e1 : PySem.W.nsIn K mainGlobals c = some (some (.ref C))) (e2 : PySem.W.nsIn K mainGlobals d = some (some (.ref D))) (h1 : PySem.W.subIn K (.ref D) (.type "BaseException") = some true) (h2 : PySem.W.isClsIn K D = true) (h3 : PySem.W.typeIn K (.ref D) = some (.type "type"))
    (h4 : PySem.W.subIn K (.ref C) (.ref D) = some b) (h5 : ((Value.ref C == Value.ref D) = true → b = true)) : ExmIn K c d b := by
  have k1 : (PySem.W.subIn K (.ref D) (.type "BaseException") == some true) = true := by rw [h1]; rfl
  have k2 : ((PySem.W.clsIn K D).isSome && PySem.W.typeIn K (.ref D) == some (.type "type")) = true := by
    have h2' : (PySem.W.clsIn K D).isSome = true := h2
    rw [h2', h3] <;> rfl
  have k3 : PySem.W.kitCls K (.ref C) (.ref D) = some b := by
    show (if ((PySem.W.clsIn K D).isSome && PySem.W.typeIn K (.ref D) == some (.type "type")) = true then PySem.W.subIn K (.ref C) (.ref D) else none) = some b
    rw [if_pos k2]; exact h4
  refine ⟨C, D, e1, e2, ?_, ?_⟩
  · unfold PySem.W.exmOne
    rw [if_pos k1]; exact k3
  · unfold PySem.W.kitOne
    by_cases z : (Value.ref C == Value.ref D) = true
    · rw [if_pos z, h5 z]
    · rw [if_neg z]; exact k3
theorem ExmIn.exm (X : K.In h) (G : h.Ns mainGlobals mg) (D : ExmIn K c d b) : PySem.W.exmOne K (.ref ((gOf mg).ca c)) (.ref ((gOf mg).ca d)) = some b := by
  obtain ⟨C, D, e1, e2, h1, _⟩ := D.ex
  rw [gOf_ca (PySem.W.mg_of X G e1), gOf_ca (PySem.W.mg_of X G e2)]
  exact h1
theorem ExmIn.kit (X : K.In h) (G : h.Ns mainGlobals mg) (D : ExmIn K c d b) : PySem.W.kitOne K (.ref ((gOf mg).ca c)) (.ref ((gOf mg).ca d)) = some b := by
  obtain ⟨C, D, e1, e2, _, h1⟩ := D.ex
  rw [gOf_ca (PySem.W.mg_of X G e1), gOf_ca (PySem.W.mg_of X G e2)]
  exact h1
structure KitTy (K : PySem.W.Frag) (c : Str) (T : String) (b : Bool) : Prop where
  ex : ∃ C, PySem.W.nsIn K mainGlobals c = some (some (.ref C)) ∧ PySem.W.kitOne K (.ref C) (.type T) = some b
theorem kit_ty' {C : Addr} (e1 : PySem.W.nsIn K mainGlobals c = some (some (.ref C))) (hm : PySem.W.kitMeta T = true) (h4 : PySem.W.subIn K (.ref C) (.type T) = some b) : KitTy K c T b := by
  refine ⟨C, e1, ?_⟩
  unfold PySem.W.kitOne
  rw [if_neg (by intro z; cases (beq_iff_eq.mp z))]
  show (if PySem.W.kitMeta T = true then PySem.W.subIn K (.ref C) (.type T) else none) = some b
  rw [if_pos hm]; exact h4
theorem KitTy.kit (X : K.In h) (G : h.Ns mainGlobals mg) (D : KitTy K c T b) : PySem.W.kitOne K (.ref ((gOf mg).ca c)) (.type T) = some b := by
  obtain ⟨C, e1, h1⟩ := D.ex
  rw [gOf_ca (PySem.W.mg_of X G e1)]
  exact h1
/-- a script: a list of ints that nothing writes -/
theorem sp_script {g : Glb} {H : Hp} {a : Addr} {ns : List Int} (hO : Only H) (hS : SqL K H a (ns.map V.int)) (hl : ∃ m, af [.ref 0] [.rol (ns.map D.int)] = .ok (.bl true) m) {Q : VK} {E : XK} (hq : ∀ H', Q (.bl true) H') : spOf K g 1 af [.ref a] H Q E := by
  obtain ⟨m, hl⟩ := hl
  have hf : SqF K H a (ns.map V.int) := by
    rcases hS with (h | ⟨o, h⟩) | h
    · rcases hO a with z | ⟨o, xs, z⟩
      · rw [z] at h; cases h
      · rw [z] at h; cases h
    · exact .inl ⟨o, h⟩
    · exact .inr h
  have hv : ∀ (xs : List Int), RepL K g [a] H (xs.map V.int) (xs.map D.int) := by
    intro xs
    induction xs with
    | nil => exact .nil
    | cons x r ih => exact .cons (.int x) ih
  refine ⟨rfl, [a], [.rol (ns.map D.int)], [.ref 0], ⟨rfl, ?_, ?_⟩, .cons (.ref rfl) .nil, ?_⟩
  · intro i j b y z h1 h2 h3 h4 t1 t2
    match i, h3 with
    | 0, h3 => cases h3; cases t1
    | i + 1, h3 => simp at h3
  · intro i b y h1 h2
    match i, h1, h2 with
    | 0, h1, h2 => cases h1; cases h2; exact ⟨_, hf, hv ns⟩
    | i + 1, h1, h2 => simp at h1
  · rw [hl]
    intro v A2 H2 s2 r2 rv
    cases rv
    exact hq H2
/-- the law's promise -/
def spL (K : PySem.W.Frag) : Sp := fun vs H Q _ => ∃ (a : Addr) (ns : List Int), vs = [.ref a] ∧ ns.length ≤ 63 ∧ Only H ∧ SqL K H a (ns.map V.int) ∧ ∀ H', Q (.bl true) H'
theorem fn_law {CX : CXT} {f : Addr} {fd : FuncData} {ps : List Str} {g : Glb} (F : FnOk P w K mg base CX k f fd ps (spOf K g 1 af)) (hl : ∀ ns : List Int, ns.length ≤ 63 → ∃ m, af [.ref 0] [.rol (ns.map D.int)] = .ok (.bl true) m) : FnOk P w K mg base CX k f fd ps (spL K) :=
  F.imp fun vs H Q E h => by
    obtain ⟨a, ns, rfl, h1, h2, h3, h4⟩ := h
    exact sp_script h2 h3 (hl ns h1) h4
def look : List (Str × Str × Bool) → Str → Str → Option Bool
  | [], _, _ => none
  | (c, h, b) :: r, x, y => if c = x ∧ h = y then some b else look r x y
theorem look_mem {x y : Str} {b : Bool} : ∀ {t : List (Str × Str × Bool)}, look t x y = some b → (x, y, b) ∈ t
  | [], h => by cases h
  | (c, h', b') :: r, h => by
    unfold look at h
    by_cases e : c = x ∧ h' = y
    · rw [if_pos e] at h
      cases h
      obtain ⟨rfl, rfl⟩ := e
      exact List.mem_cons_self
    · rw [if_neg e] at h
      exact List.mem_cons_of_mem _ (look_mem h)
def AllT (p : Str → Str → Bool → Prop) : List (Str × Str × Bool) → Prop
  | [] => True
  | (c, h, b) :: r => p c h b ∧ AllT p r
theorem look_all {p : Str → Str → Bool → Prop} {x y : Str} {b : Bool} : ∀ {t : List (Str × Str × Bool)}, AllT p t → look t x y = some b → p x y b
  | [], _, h => by cases h
  | (c, h', b') :: r, ha, h => by
    unfold look at h
    by_cases e : c = x ∧ h' = y
    · rw [if_pos e] at h
      cases h
      obtain ⟨rfl, rfl⟩ := e
      exact ha.1
    · rw [if_neg e] at h
      exact look_all ha.2 h
theorem walkA {l : PySem.W.OpenLaw} {q : Program} {loose : List Str} {XP : (Str → Option Value) → Heap → Prop} {YP : World → Heap → Prop} {d : DefRec} {K : Params → PySem.W.Frag} {x : Str} (hn : l.most = some 63) (hdf : d.params.defaults = [])
    (hr : Room k callerA) (hY : ∀ (w : World) (h : Heap), YP w h → (K w.params).In h)
    (F : ∀ (w : World) (mg : Str → Option Value) (fa : Addr) (h : Heap), (K w.params).In h → h.Ns mainGlobals mg → mg d.name = some (.ref fa) →
      ∃ fd : FuncData, (∀ (s : Shared) (u : Value), BindsTo s fd ⟨[u], []⟩ [(x, u)]) ∧ ∀ base : Heap, (K w.params).In base → base.Ns mainGlobals mg → FnOk l.prog w (K w.params) mg base (L2.CX l.prog w) k fa fd [x] (spL (K w.params))) :
    PySem.W.WalkO q loose XP YP l.row.toRowW d [] (fun f vs => PySem.call f vs) :=
  L2.walk_of (n := 63) (k := k) (x := x) (CX := fun w => L2.CX l.prog w) (sp := fun w => spL (K w.params)) hn (by decide) hdf hr hY F (fun _ _ a ns hl hO hS => ⟨a, ns, rfl, hl, hO, hS, fun _ => rfl⟩) fun _ _ _ _ _ ⟨_, _, _, _, _, _, _, _, _, _, _, _, z⟩ => z
end
end Ab
set_option Elab.async false
set_option linter.all false
set_option maxRecDepth 100000
/-! # isinstance of two classes, how many a set of ints has -/
namespace L2
open PySem PySem.Spec PyProof.Rows
/-- a list, each item once -/
def ddI (ns : List Int) : List Int := ns.foldl (fun acc x => if acc.any (· == x) then acc else acc ++ [x]) []
theorem met_dd (ns : List Int) : ∀ i, i ≤ ns.length → PyProof.Rows.firstMet (fun j => ns.getD j 0) i = ddI (ns.take i)
  | 0, _ => rfl
  | i + 1, hi => by
    have hlt : i < ns.length := hi
    have e1 : ns.getD i 0 = ns[i] := by simp [List.getD_eq_getElem?_getD, List.getElem?_eq_getElem hlt]
    have ih := met_dd ns i (by omega)
    rw [PyProof.Rows.firstMet_succ, ih, List.take_add_one, List.getElem?_eq_getElem hlt]
    unfold ddI
    rw [List.foldl_append]
    show (if (ddI (ns.take i)).any (· == ns.getD i 0) then ddI (ns.take i) else ddI (ns.take i) ++ [ns.getD i 0]) = _
    rw [e1]; rfl
theorem dd_len (ns : List Int) : (ddI ns).length ≤ ns.length := by
  have : ∀ (ns acc : List Int), (ns.foldl (fun acc x => if acc.any (· == x) then acc else acc ++ [x]) acc).length ≤ acc.length + ns.length := by
    intro ns
    induction ns with
    | nil => intro acc; simp
    | cons x ns ih =>
      intro acc
      rw [List.foldl_cons]
      split
      · have := ih acc; rw [List.length_cons]; omega
      · have := ih (acc ++ [x]); rw [List.length_append, List.length_singleton] at this; rw [List.length_cons]; omega
  have h := this ns []
  rw [List.length_nil, Nat.zero_add] at h
  exact h
def tSetLen (K : PySem.W.Frag) (tx : TE) : TE := fun σ H Q => tx σ H fun y H1 => ∃ (at1 : Addr) (zs : List Int), y = .ref at1 ∧ SqL K H1 at1 (zs.map V.int) ∧ zs.length ≤ 4000 ∧ Q (.int ((ddI zs).length : Nat)) H1
theorem pe_setLen {X : Cx} {ex : Expr} {tx : TE} {p1 p2 p3 pos : Pos} (gl : Gl X "len") (ml : X.mg "len" = none) (gs : Gl X "set") (ms : X.mg "set" = none) (he : PE X ex tx) (calm : X.calm = true)
    (ns1 : starEach [ex] X.env = (false, eval ex X.env) :: starEach [] X.env) : PE X (.Call (.Name "len" p1) [.Call (.Name "set" p2) [ex] [] p3] [] pos) (tSetLen X.K tx) := ⟨fun pins s σ H Q I h => by
  refine Call_ (ld_blt I gl ml boot_len (PyProof.Rows.callWith_builtin1 (PyProof.Rows.args_cons ?_ rfl) rfl rfl))
  refine Call_ (ld_blt I gs ms boot_set (PyProof.Rows.callWith_type1 (PyProof.Rows.args_cons (thn (he.run pins s σ H _ I h) fun v sb ⟨y, H1, I1, r1, w1⟩ => PyProof.Rows.args_nil ?_) ns1) ns1 rfl))
  obtain ⟨at1, zs, rfl, hs, hl, w1⟩ := w1
  cases r1
  obtain ⟨its, rv, pl, hz⟩ := I1.list hs
  have sz : its.toArray.size = zs.length := by rw [List.size_toArray, ← rv.length, List.length_map]
  refine call_set_list (I1.ok.hd calm) pl.isList (by simpa using RZ.intsAre_vals rv) (by rw [sz]; unfold scanBound; omega) fun hb tb hS hk => ?_
  refine PyProof.Rows.args_nil ?_
  rw [sz, met_dd zs zs.length (Nat.le_refl _), List.take_length] at hS
  have hlen := dd_len zs
  obtain ⟨o, es, ep, t, ho, hex, hd, _, _, _, hf, hn⟩ := hS
  have I2 : Inv X pins σ H1 { sb with heap := hb, toks := tb } := I1.kept fun b o e => hk b o (Heap.lt_size e) e
  exact call_len_set ho hex hd hf (by rw [hn] <;> omega) ⟨.int (ddI zs).length, H1, I2.tok _, ⟨_, by rw [hn]⟩, w1⟩⟩
/-- sum of a tuple of ints -/
def rSumT (K : PySem.W.Frag) : List V → Hp → VK → Prop := fun ys H Q => ∃ (at1 : Addr) (zs : List Int), ys = [V.ref at1] ∧ SqT K H at1 (zs.map V.int) ∧ Q (.int zs.sum) H
theorem cr_sumT {X : Cx} (calm : X.calm = true) : CallR X (.builtin "sum") (rSumT X.K) := by
  intro pins s σ H ys us Q I r h
  obtain ⟨at1, zs, rfl, hs, q⟩ := h
  obtain ⟨its, rv, ht, _⟩ := I.tuple hs
  rw [Vals.ref1 r]
  have hi := rv.ints
  obtain ⟨xs, e⟩ := hi.allInts.items
  have hn : numsOf (intItems xs).toList = zs := by rw [← e]; exact hi.numsOf
  rw [nums_intItems] at hn
  rw [e] at ht
  refine PySem.W.ktm_sumG (I.ok.hd calm) ht fun hb tb t' hk => ⟨.int zs.sum, H, I.kept hk, ⟨t', ?_⟩, q⟩
  rw [preSum_eq, List.take_of_length_le (by simp), hn]
end L2
namespace Ab
open PySem PySem.Spec PyProof.Rows L2
section
variable {X : Cx} {g : Glb} {γ : Gam} {p pos : Pos}
def eSetLen (a : AE) : AE := fun env m => (a env m).bind fun d m => match d with
  | .ref n => match m[n]? with
    | some (.lst ds) => match intsD ds with
      | some ns => if ns.length ≤ 4000 then .ok (.int ((ddI ns).length : Nat)) m else .no
      | none => .no
    | _ => .no
  | _ => .no
theorem se_setLen {ex : Expr} {a : AE} {p1 p2 p3 : Pos} (calm : X.calm = true) (ml : X.mg "len" = none) (ms : X.mg "set" = none) (he : SE X g γ ex a) (gl : L2.Gl X "len" := by rfl) (gs : L2.Gl X "set" := by rfl)
    (ns1 : starEach [ex] X.env = (false, eval ex X.env) :: starEach [] X.env := by rfl) : SE X g γ (.Call (.Name "len" p1) [.Call (.Name "set" p2) [ex] [] p3] [] pos) (eSetLen a) := ⟨fun W tk => by
  obtain ⟨t, pe, q⟩ := he.out W tk
  refine ⟨_, pe_setLen gl ml gs ms pe calm ns1, fun σ env A H mem Q hgm her hr hp => ?_⟩
  refine q σ env A H mem _ hgm her hr (hp.bnd fun v A1 H1 d m s1 r1 rv p1 => ?_)
  split at p1
  · rename_i n
    split at p1
    · rename_i ds hm
      split at p1
      · rename_i ns hn
        split at p1
        · rename_i hl
          cases rv with
          | @ref _ a' ha =>
            obtain ⟨vs, e, l⟩ := r1.cell _ _ _ ha hm
            have ev := intsD_v hn l
            subst ev
            exact ⟨a', ns, rfl, .inl (.inl e), hl, p1 _ A1 H1 .refl r1 (.int _)⟩
        · exact p1.elim
      · exact p1.elim
    · exact p1.elim
  · exact p1.elim⟩
def bSumB : FL := fun ds m => match ds with
  | [.tup xs] => match intsD xs with
    | some ns => .ok (.int ns.sum) m
    | none => .no
  | _ => bSum ds m
theorem ca_sumB (hc : X.calm = true) : CaA X g (.builtin "sum") bSumB := by
  obtain ⟨r, hr, hr2⟩ := (ca_sum (g := g) hc).out
  refine ⟨_, caR_or (cr_sumT hc) hr, fun A H mem xs ds Q W R rs p => ?_⟩
  unfold bSumB at p
  split at p
  · rename_i ys
    obtain ⟨v, rfl, rv⟩ := repL_one rs
    split at p
    · rename_i ns hn
      cases rv with
      | @tup a vs ds' hq l =>
        have e := intsD_v hn l
        subst e
        exact .inl ⟨a, ns, rfl, hq.t, p _ A H .refl R (.int _)⟩
    · exact p.elim
  · exact .inr (hr2 A H mem xs ds Q W R rs p)
/-- isinstance(x, (S, T)) -/
def eIsi2 (S T : String) (a : AE) : AE := fun env m => (a env m).bind fun d m => match tyN d m with
  | some t => match kitB t S, kitB t T with
    | some b1, some b2 => .ok (.bl (b1 || b2)) m
    | _, _ => .no
  | none => .no
theorem se_isi2 {S T : String} {ex : Expr} {a : AE} {p1 p2 pt : Pos} {k : Nat} {s t : Str} (hm : X.mg "isinstance" = none) (hS : X.mg s = none) (hT : X.mg t = none) (vS : bootBuiltins s = some (.type S)) (vT : bootBuiltins t = some (.type T)) (he : SE X g γ ex a)
    (hg : L2.Gl X "isinstance" := by rfl) (gS : L2.Gl X s := by rfl) (gT : L2.Gl X t := by rfl) (nS : s ≠ "__name__" := by decide) (nT : t ≠ "__name__" := by decide) (dS : (s == ("__debug__" : Str)) = false := by decide) (dT : (t == ("__debug__" : Str)) = false := by decide)
    (hvi : bootBuiltins "isinstance" = some (.builtin "isinstance") := by decide +kernel)
    (hs : starEach [ex, .Tuple [.Name s p1, .Name t p2] k pt] X.env = (false, eval ex X.env) :: starEach [.Tuple [.Name s p1, .Name t p2] k pt] X.env := by rfl) (hpl : (backTo pos (starEach [.Tuple [.Name s p1, .Name t p2] k pt] X.env)).any (·.1) = false := by rfl)
    (hs2 : starEach [.Tuple [.Name s p1, .Name t p2] k pt] X.env = (false, eval (.Tuple [.Name s p1, .Name t p2] k pt) X.env) :: starEach [] X.env := by rfl)
    (hs3 : starEach [.Name s p1, .Name t p2] X.env = (false, eval (.Name s p1) X.env) :: starEach [.Name t p2] X.env := by rfl) (hs4 : starEach [.Name t p2] X.env = (false, eval (.Name t p2) X.env) :: starEach [] X.env := by rfl) :
    SE X g γ (.Call (.Name "isinstance" p) [ex, .Tuple [.Name s p1, .Name t p2] k pt] [] pos) (eIsi2 S T a) := ⟨fun W tk => by
  obtain ⟨te, pe, q⟩ := he.out W tk
  refine ⟨_, pe_callB call_isiT hg hm hvi (pa_cons pe (pa_cons (pe_tup (pa_cons (pe_bltn (v := .ty S) gS hS vS rfl nS dS) (pa_cons (pe_bltn (v := .ty T) gT hT vT rfl nT dT) pa_nil hs4) hs3)) pa_nil hs2) hs) (by decide) (by decide) hs hpl, fun σ env A H mem Q hgm her hr hp => ?_⟩
  refine q σ env A H mem _ hgm her hr (hp.bnd fun v A1 H1 d m s1 r1 rv p1 => ?_)
  split at p1
  · rename_i t' ht
    split at p1
    · rename_i b1 b2 hb1 hb2
      refine ⟨by show 2 ≤ sizeLine; rw [show sizeLine = 2 ^ 24 from rfl]; omega, fun tp htp => ?_⟩
      obtain ⟨s2, r2⟩ := r1.new (o := .tup [.ty S, .ty T]) htp
      refine ⟨v, tp, [.ty S, .ty T], .type t', [.type S, .type T], b1 || b2, rfl, upd_same, .cons (.ty S) (.cons (.ty T) .nil), tyN_x r2 (rv.stab s2) ht, ?_, p1 _ A1 _ s2 r2 (.bl _)⟩
      refine kitAny_cons (kit_ty hb1) (fun z => ?_) (fun z => by rw [z]; rfl)
      rw [z, Bool.false_or]
      exact kitAny_cons (kit_ty hb2) (fun z => by rw [z]; exact kitAny_nil) (fun z => z)
    · exact p1.elim
  · exact p1.elim⟩
end
/-- a block within a block that captures nothing -/
def noSc : Scope := { kind := .function, names := [], isGenerator := false, isCoroutine := false, more := [] }
theorem blkOk_any {N : List Str} {sc scope : Scope} {own : List (Str × Nat)} (h : blkC N noSc scope own = true) : BlkOk N sc scope own := by
  have b := blkOk_by h
  refine ⟨b.kind, b.uniq, b.ix, fun y hy hf => ?_, b.own⟩
  rcases b.free y hy hf with z | z <;> cases z
/-- a def of which nothing is promised -/
theorem fn_none {P : Program} {w : World} {K : PySem.W.Frag} {mg : Str → Option Value} {base : Heap} {g : Glb} {k n : Nat} {f : Addr} {fd : FuncData} {ps : List Str} : FnOk P w K mg base (L2.CX P w) k f fd ps (spOf K g n fun _ _ => .no) := by
  refine ⟨fun vs H Q E h => ?_, fun A outer s H args us vs Q E hr he hb hv h => ?_⟩
  · obtain ⟨_, A, mem, ds, _, _, p⟩ := h; exact p.elim
  · obtain ⟨_, A, mem, ds, _, _, p⟩ := h; exact p.elim
end Ab
set_option Elab.async false
set_option linter.all false
set_option maxRecDepth 100000
/-! # xs[i] -= e, a tuple turned round, sorted rows of whole numbers -/
namespace L2
open PySem PySem.Spec PyProof.Rows
section
variable {prog : Program} {w : World} {A : Around} {E : Value → Shared → Prop} {s : Shared}
theorem adjust_rev (n : Nat) : Builtin.Slice.sliceAdjust none none (-1) (n : Int) = ((n : Int) - 1, -1) := by
  unfold Builtin.Slice.sliceAdjust; simp
theorem places_rev (n : Nat) : Builtin.Slice.slicePlaces ((n : Int) - 1) (-1) (-1) = n := by
  unfold Builtin.Slice.slicePlaces
  rw [if_neg (by omega)]
  by_cases h : n = 0
  · subst h; rw [if_neg (by omega)]; rfl
  · rw [if_pos (by omega)]
    have e : ((n : Int) - 1 - -1 - 1) / - -1 + 1 = (n : Int) := by
      rw [show (- (-1 : Int)) = 1 from rfl, Int.ediv_one]; omega
    rw [e]; rfl
theorem fm_congr {α β : Type} {f g : α → Option β} : ∀ {l : List α}, (∀ x, x ∈ l → f x = g x) → l.filterMap f = l.filterMap g
  | [], _ => rfl
  | a :: l, h => by
    rw [List.filterMap_cons, List.filterMap_cons, h a List.mem_cons_self, fm_congr fun x hx => h x (List.mem_cons_of_mem _ hx)]
theorem pick_rev (xs : Array Value) : (List.filterMap (fun m => xs[(((xs.size : Int) - 1) + (m : Nat) * (-1)).toNat]?) (List.range xs.size)).toArray = xs.toList.reverse.toArray := by
  rw [← PySem.W.krv_pick]
  unfold slicePick
  rw [PySem.W.krv_bounds]
  dsimp only
  rw [PySem.W.krv_sliceRange, List.filterMap_map]
  congr 1
  refine fm_congr fun m hm => ?_
  have hm := List.mem_range.mp hm
  show xs[_]? = xs[xs.size - 1 - m]?
  congr 1
  omega
theorem sliceApplied_rev {sl : Addr} {vl vu vs : Value} {n : Nat} {Q : Int × Int × Nat → Shared → Prop} (hs : s.heap.IsSliceOf sl vl vu vs) (pl : IsPart vl none) (pu : IsPart vu none) (ps : IsPart vs (some (-1))) (h : Q ((n : Int) - 1, -1, n) s) :
    wpAny (model prog w) A (Builtin.Slice.sliceApplied (.ref sl) (pure (n : Int))) Q E s := by
  obtain ⟨os, hos, hcs, hds⟩ := hs
  unfold Builtin.Slice.sliceApplied Builtin.Slice.sliceFields
  refine wpAny_bind (wpAny_bind (wpAny_field hos hds rfl (wpAny_bind (wpAny_field hos hds rfl (wpAny_bind (wpAny_field hos hds rfl (wpAny_pure ?_)))))))
  refine wpAny_bind (HT.slicePart_ ps ?_)
  dsimp only
  rw [if_neg (by decide)]
  refine wpAny_bind (HT.slicePart_ pl (wpAny_bind (HT.slicePart_ pu (wpAny_bind (wpAny_pure ?_)))))
  show wpAny _ _ (match Builtin.Slice.sliceAdjust none none (-1) (n : Int) with
    | (lo, hi) => pure (lo, (-1 : Int), Builtin.Slice.slicePlaces lo hi (-1))) _ _ _
  rw [adjust_rev]
  dsimp only
  rw [places_rev]
  exact wpAny_pure h
theorem getItem_tuple_rev {t sl : Addr} {items : Array Value} {vl vu vs : Value} {Q : Value → Shared → Prop} (ht : IsTup s.heap t items) (hs : s.heap.IsSliceOf sl vl vu vs) (pl : IsPart vl none) (pu : IsPart vu none) (ps : IsPart vs (some (-1)))
    (h : Q (.ref s.heap.objs.size) { s with heap := s.heap.push { cls := .type "tuple", data := .seq items.toList.reverse.toArray } }) (hsz : items.size ≤ sizeLine) : wpAny (model prog w) A (getItem (.ref t) (.ref sl)) Q E s := by
  have hs' := hs
  obtain ⟨os, hos, hcs, hds⟩ := hs'
  have hTs : s.TypeIs (.ref sl) "slice" := ⟨os, hos, hcs⟩
  unfold getItem
  refine wpAny_holding (wpAny_bind (wpAny_sequenceKey ht.typeIs (by decide) (wpAny_bind (wpAny_callSpecial?_slot ht.typeIs PyProof.Rows.slot_tuple_getitem (wpAny_call_entry PyProof.Rows.slot_tuple_getitem ht.typeIs entry_tuple_getitem ?_ (args_tuple_getitem _ _))))))
  refine wpAny_bind (wpAny_pure ?_)
  refine wpAny_bind (tupleItemsOf_ ht (wpAny_bind (wpAny_typeOf hTs ?_)))
  rw [if_pos (by decide)]
  refine wpAny_bind (sliceApplied_rev hs pl pu ps ?_)
  dsimp only
  rw [if_neg (by simp)]
  rw [pick_rev]
  exact wpAny_bind (wpAny_newObj_type (wpAny_pure ⟨_, rfl, wpAny_pure h⟩) (by show items.toList.reverse.toArray.size ≤ sizeLine; rw [List.size_toArray, List.length_reverse, Array.length_toList]; exact hsz))
end
theorem vals_app : ∀ {xs ys : List V} {us ws : List Value}, Vals xs us → Vals ys ws → Vals (xs ++ ys) (us ++ ws)
  | _, _, _, _, .nil, h => h
  | _, _, _, _, .cons r l, h => .cons r (vals_app l h)
theorem vals_rev : ∀ {xs : List V} {us : List Value}, Vals xs us → Vals xs.reverse us.reverse
  | _, _, .nil => .nil
  | _, _, .cons r l => by
    rw [List.reverse_cons, List.reverse_cons]
    exact vals_app (vals_rev l) (.cons r .nil)
def tRevT (K : PySem.W.Frag) (te : TE) : TE := fun σ H Q => te σ H fun x H1 => ∃ a xs, x = .ref a ∧ SqT K H1 a xs ∧ NewT xs.reverse Q H1
theorem pe_revT {X : Cx} {e : Expr} {te : TE} {k : Nat} {p1 p2 p3 pos : Pos} (he : PE X e te) : PE X (.Subscript e (.Slice none none (some (.UnaryOp .USub (.Constant (.int 1) k p1) p2)) p3) pos) (tRevT X.K te) := ⟨fun pins s σ H Q I h => by
  refine Subscript_ (thn (he.run pins s σ H _ I h) fun v s1 ⟨x, H1, I1, r1, a, xs, ex, hx, q⟩ => ?_)
  subst ex
  cases r1
  have hst := po_some (X := X) (pe_un (pos := p2) un_neg (pe_int (i := 1) (j := k) (pos := p1)))
  refine wpAny_Slice (thn (po_none.run pins s1 σ H1 (fun o H2 => o = none ∧ H2 = H1) I1 ⟨rfl, rfl⟩) fun vl s2 ⟨l, H2, I2, pl, el, e2⟩ => ?_)
  subst el; subst e2
  refine thn (po_none.run pins s2 σ H2 (fun o H3 => o = none ∧ H3 = H2) I2 ⟨rfl, rfl⟩) fun vu s3 ⟨u, H3, I3, pu, eu, e3⟩ => ?_
  subst eu; subst e3
  refine thn (hst.run pins s3 σ H3 (fun o H4 => o = some (-1) ∧ H4 = H3) I3 ⟨1, rfl, -1, rfl, rfl, rfl⟩) fun vs s4 ⟨o, H4, I4, ps, eo, e4⟩ => ?_
  subst eo; subst e4
  have I5 : Inv X pins σ H4 { s4 with heap := s4.heap.push { cls := Value.type "slice", data := Data.fields #[vl, vu, vs] } } := Inv.kept I4 (t' := s4.toks) fun b ob q => Heap.get?_push_of_some { cls := Value.type "slice", data := Data.fields #[vl, vu, vs] } q
  have hsl : (s4.heap.push { cls := Value.type "slice", data := Data.fields #[vl, vu, vs] }).IsSliceOf s4.heap.objs.size vl vu vs := ⟨_, Heap.get?_push_size _ rfl, rfl, rfl⟩
  obtain ⟨its, r, ht, hz⟩ := I5.tuple hx
  have hlen : its.toArray.size = xs.length := by rw [List.size_toArray]; exact r.length.symm
  have g1 := getItem_tuple_rev (prog := X.prog) (w := X.w) (A := X.A) (E := X.xe) (Q := EP X pins σ Q) ht hsl pl pu ps (by
    have e := laidT (Q := Q) (xs := xs.reverse) (us := its.reverse) I5 (by rw [List.length_reverse]; exact hz) (vals_rev r) q
    exact e) (by rw [hlen]; exact hz)
  unfold PyProof.Rows.subscriptTail
  refine wpAny_bind ?_
  rw [PySem.getitemInPython_of_ne ht.typeIs.not_modules]
  refine wpAny_bind (wpAny_specialOf ht.typeIs PySem.F.slot_tuple_getitem.lookup ?_)
  have fin : wpAny (model X.prog X.w) X.A (subscripted (.Slice none none (some (.UnaryOp .USub (.Constant (.int 1) k p1) p2)) p3) false (Value.ref a) (Value.ref s4.heap.objs.size)) (fun r s₃ => wpAny (model X.prog X.w) X.A (letTemporaryGo e (Value.ref a) r >>= fun _ => pure r) (EP X pins σ Q) X.xe s₃) X.xe { s4 with heap := s4.heap.push { cls := Value.type "slice", data := Data.fields #[vl, vu, vs] } } := by
    show wpAny _ _ (operate [Value.ref a, Value.ref s4.heap.objs.size] (getItem (Value.ref a) (Value.ref s4.heap.objs.size))) _ _ _
    exact wpAny_operating (wpAny_mono g1 (fun r s₃ h₃ => wpAny_bind (wpAny_letTemporaryGo (wpAny_pure h₃))) fun _ _ x => x)
  first
    | exact wpAny_pure (wpAny_bind fin)
    | exact wpAny_bind (wpAny_pure (wpAny_bind fin))
    | exact wpAny_bind fin⟩
def tGetL (o i : V) (H : Hp) (Q : VK) : Prop := ∃ a xs k v, o = .ref a ∧ i = .int k ∧ Rd H a (.lst xs) ∧ atI xs k = some v ∧ Q v H
theorem get_listP {X : Cx} : PGet X tGetL := by
  intro pins s σ H o i ov iv Q I ro ri h
  obtain ⟨a, xs, k, v, rfl, rfl, hx, hv, q⟩ := h
  cases ro
  obtain ⟨t, rfl⟩ := ri
  obtain ⟨its, r, pl, hz⟩ := I.list (.inl hx)
  have hlen : its.length = xs.length := r.length.symm
  have hsl : sizeLine = 2 ^ 24 := rfl
  unfold atI ixN at hv
  split at hv
  · rename_i h0
    split at hv
    · rename_i h1
      obtain ⟨u, hu, ru⟩ := r.get hv
      exact wpAny_getItem_list pl.isList h0 (by omega) (by simpa using hu) ⟨v, H, I, ru, q⟩
    · cases hv
  · rename_i h0
    split at hv
    · rename_i h1
      obtain ⟨u, hu, ru⟩ := r.get hv
      refine wpAny_getItem_list_neg pl.isList (by omega) (by rw [List.size_toArray, hlen]; exact h1) (by omega) ?_ ⟨v, H, I, ru, q⟩
      rw [List.size_toArray, hlen]; simpa using hu
    · cases hv
/-! ### rows of whole numbers, sorted -/
abbrev encT (r : List Int) : PyData := .tuple (r.map .int)
noncomputable def sortR (rs : List (List Int)) : List (List Int) := rs.mergeSort (PySem.W.dataLe false encT)
theorem sortR_perm (rs : List (List Int)) : (sortR rs).Perm rs := List.mergeSort_perm _ _
theorem alikeAll_ints : ∀ a b : List Int, PySem.W.alikeAll (a.map .int) (b.map .int) = true
  | [], [] => rfl
  | [], _ :: _ => rfl
  | _ :: _, [] => rfl
  | x :: a, y :: b => by
    show (PySem.W.alike (.int x) (.int y) && PySem.W.alikeAll (a.map .int) (b.map .int)) = true
    rw [alikeAll_ints a b]; rfl
theorem each_of : ∀ {xs : List V} {us : List Value} {rs : List (List Int)} {P : V → List Int → Prop}, Vals xs us → xs.length = rs.length → (∀ x r, (x, r) ∈ xs.zip rs → P x r) → PySem.W.EachIs (fun u r => ∃ x, RelV x u ∧ P x r) us rs
  | _, _, [], _, .nil, _, _ => .nil
  | _, _, [], _, .cons _ _, h, _ => by cases h
  | _, _, _ :: _, _, .nil, h, _ => by cases h
  | _, _, r :: rs, P, .cons (a := x) ru l, h, hp => .cons ⟨x, ru, hp x r (by rw [List.zip_cons_cons]; exact List.mem_cons_self)⟩ (each_of l (by simpa using h) fun y q hq => hp y q (by rw [List.zip_cons_cons]; exact List.mem_cons_of_mem _ hq))
theorem each_reads {h : Heap} : ∀ {us : List Value} {rs : List (List Int)} {as : List Addr}, ReadsAll h us (rs.map encT) as → PySem.W.EachIs (fun u r => ∃ as, Reads h u (encT r) as) us rs
  | _, [], _, .nil => .nil
  | _, _ :: _, _, .cons r l => .cons ⟨_, r⟩ (each_reads l)
theorem each_back {P : V → List Int → Prop} : ∀ {us : List Value} {rs : List (List Int)}, PySem.W.EachIs (fun u r => ∃ x, RelV x u ∧ P x r) us rs → ∃ ys, Vals ys us ∧ Paired P ys rs
  | _, _, .nil => ⟨[], .nil, .nil⟩
  | _, _, .cons ⟨x, h1, h2⟩ l => by
    obtain ⟨ys, a, b⟩ := each_back l
    exact ⟨x :: ys, .cons h1 a, .cons h2 b⟩
theorem swo0 : SrtO.Swo (fun _ _ : Value => false) := ⟨fun _ _ h => (Bool.false_ne_true h).elim, fun _ _ _ _ _ => rfl⟩
theorem perm1 {α : Type} : ∀ {a b : List α}, a.Perm b → b.length ≤ 1 → a = b
  | a, [], p, _ => List.perm_nil.mp p
  | a, [x], p, _ => List.perm_singleton.mp p
  | _, _ :: _ :: _, _, h => by simp at h
def rSortedR (K : PySem.W.Frag) : List V → Hp → VK → Prop := fun vs H Q => ∃ (a : Addr) (xs : List V) (rs : List (List Int)), vs = [V.ref a] ∧ SqL K H a xs ∧ DpAll K H xs (rs.map encT) ∧ (rs.length ≤ 1 ∨ ∀ r, r ∈ rs → r ≠ []) ∧
  ∀ (ys : List V) (p : Addr), Paired (fun x r => (x, r) ∈ xs.zip rs) ys (sortR rs) → H p = none → Q (.ref p) (upd H p (.lst ys))
theorem cr_sortedR {X : Cx} (hu : X.A.units + 65 < cLine) : CallR X (.builtin "sorted") (rSortedR X.K) := by
  intro pins s σ H vs us Q I r h
  obtain ⟨a, xs, rs, rfl, hs, hd, hc, q⟩ := h
  obtain ⟨its, rv, pl, hz⟩ := I.list hs
  rw [Vals.ref1 r]
  obtain ⟨as, hrd⟩ := Dp.readsAll I _ _ its hd rv
  have hlr : xs.length = rs.length := by
    have e := (each_reads hrd).length
    rw [← e]; exact rv.length
  have e1 := each_of (P := fun x r => (x, r) ∈ xs.zip rs) rv hlr fun _ _ h => h
  have fin : ∀ out : List Value, PySem.W.EachIs (fun u r => ∃ x, RelV x u ∧ (x, r) ∈ xs.zip rs) out (sortR rs) → EP X pins σ Q (.ref (s.heap.objs.size + 1)) { s with heap := sortedAll s.heap its out.toArray } := fun out ho => by
    obtain ⟨ys, h1, h2⟩ := each_back ho
    obtain ⟨ep, he'⟩ := PyProof.Rows.sortedAll_at s.heap its out.toArray
    have hl : ys.length ≤ sizeLine := by
      have e2 := ho.length
      rw [(sortR_perm rs).length_eq, ← hlr] at e2
      rw [h1.length, e2]; exact hz
    exact ⟨.ref _, upd H (s.heap.objs.size + 1) (.lst ys), I.laid (t' := s.toks) (fun _ _ => PyProof.Rows.sortedAll_old) (Nat.le_succ _) ⟨hl, out, ep, h1, he'⟩, rfl, q _ _ h2 (I.hok.fresh (Nat.le_succ _))⟩
  rcases hc with h1 | h1
  · refine SrtO.sorted_ord (ltv := fun _ _ => false) swo0 pl.isList (by rw [← rv.length]; exact hz) (fun h2 => ?_) fun out _ hb => fin out ?_
    · rw [← rv.length, hlr] at h2; omega
    · have hp := hb.perm
      have hl : its.length ≤ 1 := by rw [← rv.length, hlr]; exact h1
      have eo : out = its := perm1 hp hl
      have er : sortR rs = rs := perm1 (sortR_perm rs) h1
      rw [eo, er]; exact e1
  · refine PySem.W.sorted_data pl.isList e1 (each_reads hrd) (PySem.W.AllAlike.of fun b b' => alikeAll_ints b b') (.inl fun d hd => ?_) (by rw [← hlr]; exact hz) (fun b _ => ?_) fun out _ ho => fin out ho
    · obtain ⟨r, hr, rfl⟩ := List.mem_map.mp hd
      match r, h1 r hr with
      | x :: r, _ => exact ⟨_, _, rfl⟩
    · show X.A.units + 2 + (PyData.depthAll (b.map .int) + 1) < cLine
      rw [depth_all0]; omega
end L2
namespace Ab
open PySem PySem.Spec PyProof.Rows L2
section
variable {X : Cx} {g : Glb} {γ : Gam} {p pos : Pos}
def eRev (a : AE) : AE := fun env m => (a env m).bind fun d m => match d with
  | .tup ds => .ok (.tup ds.reverse) m
  | _ => .no
theorem RepL.rev {K : PySem.W.Frag} {A : List Addr} {H : Hp} : ∀ {vs : List V} {ds : List D}, RepL K g A H vs ds → RepL K g A H vs.reverse ds.reverse
  | _, _, .nil => .nil
  | _, _, .cons r l => by
    rw [List.reverse_cons, List.reverse_cons]
    exact (RepL.rev l).append (.cons r .nil)
theorem se_rev {e : Expr} {a : AE} {k : Nat} {p1 p2 p3 : Pos} (he : SE X g γ e a) : SE X g γ (.Subscript e (.Slice none none (some (.UnaryOp .USub (.Constant (.int 1) k p1) p2)) p3) pos) (eRev a) := ⟨fun W tk => by
  obtain ⟨t, pe, q⟩ := he.out W tk
  refine ⟨_, pe_revT pe, fun σ env A H mem Q hgm her hr hp => ?_⟩
  refine q σ env A H mem _ hgm her hr (hp.bnd fun v A1 H1 d m s1 r1 rv p1 => ?_)
  cases rv with
  | @tup a vs ds hq l =>
    refine ⟨a, vs, rfl, hq.t, fun p o ho hp => ?_⟩
    obtain ⟨s2, r2⟩ := r1.new (o := .frz o (.tup vs.reverse)) hp
    exact p1 _ A1 _ s2 r2 (.tup (.inl ⟨o, upd_same, ho⟩) ((RepL.rev l).stab s2))
  | _ => exact p1.elim⟩
def sAugS (f : Int → Int → Int) (o i e : AE) : AS := fun env m => (o env m).o env fun x m => (i env m).o env fun y m => match x, y with
  | .ref n, .int k => match m[n]? with
    | some (.lst ds) => match atI ds k with
      | some (.int z) => (e env m).o env fun u m => match u with
        | .int u => match dSet (.ref n) (.int k) (.int (f z u)) m with
          | .ok _ m => .nx env m
          | _ => .no
        | _ => .no
      | _ => .no
    | _ => .no
  | _, _ => .no
theorem ss_augS {op : Operator} {f : Int → Int → Int} {tpos : Pos} {o i e : Expr} {io ii ie : AE} (hu : X.A.units + 1 < cLine) (ip : PIp X op (ipI f)) (ho : SE X g γ o io) (hi : SE X g γ i ii) (he : SE X g γ e ie)
    (hst : ∀ (ov iv new : Value), augStore i ov iv new = (do
      holding [new, ov, iv] (setItem ov iv new)
      release [new, ov, iv] []
      pure Flow.next) := by intros; rfl) : SS X g γ (.AugAssign (.Subscript o i tpos) op e pos) (sAugS f io ii ie) := ⟨fun W tk => by
  obtain ⟨ts, ps, qs⟩ := (stA (g := g) hu).out
  obtain ⟨to, po, qo⟩ := ho.out W tk
  obtain ⟨ti, pi, qi⟩ := hi.out W tk
  obtain ⟨te, pe, qe⟩ := he.out W tk
  refine ⟨_, ps_augS po pi get_listP pe ip ps hst, fun σ env A H mem E hg hv hr hp => ?_⟩
  refine qo σ env A H mem _ hg hv hr (PostS.of (rl := Rep X.K g) hv hp fun x A1 H1 dx m s1 r1 rx p1 => ?_)
  refine qi σ env A1 H1 m _ (hg.pre s1.pre) (hv.stab s1) r1 (PostS.of (rl := Rep X.K g) (hv.stab s1) p1 fun y A2 H2 dy m2 s2 r2 ry p2 => ?_)
  have rx2 := rx.stab s2
  split at p2
  · rename_i n k
    split at p2
    · rename_i ds hm
      split at p2
      · rename_i z hz
        cases ry
        cases rx2 with
        | @ref _ a ha =>
          obtain ⟨vs, e1, q1⟩ := r2.cell _ _ _ ha hm
          obtain ⟨v, hv1, rv1⟩ := q1.atI hz
          cases rv1
          refine ⟨a, vs, k, .int z, rfl, rfl, .inl e1, hv1, ?_⟩
          refine qe σ env A2 H2 m2 _ (hg.pre (s1.trans s2).pre) (hv.stab (s1.trans s2)) r2 (PostS.of (rl := Rep X.K g) (hv.stab (s1.trans s2)) p2 fun u A3 H3 du m3 s3 r3 ru p3 => ?_)
          split at p3
          · rename_i u'
            cases ru
            refine ⟨z, u', rfl, rfl, ?_⟩
            refine qs A3 H3 m3 _ _ _ (.ref n) (.int k) (.int (f z u')) _ r3 ((show Rep X.K g A2 H2 (.ref a) (.ref n) from .ref ha).stab s3) (.int _) (.int _) ?_
            cases e5 : dSet (.ref n) (.int k) (.int (f z u')) m3 with
            | ok u m4 =>
              rw [e5] at p3
              exact fun _ A4 H4 s4 r4 _ => p3 σ A4 H4 s4 r4 (hv.stab (s1.trans (s2.trans (s3.trans s4))))
            | er x m => rw [e5] at p3; exact p3.elim
            | no => rw [e5] at p3; exact p3.elim
          · exact p3.elim
      · exact p2.elim
    · exact p2.elim
  · exact p2.elim⟩
/-! ### sorted rows -/
abbrev tIr (r : List Int) : D := .tup (r.map .int)
def rowsD : List D → Option (List (List Int))
  | [] => some []
  | .tup r :: ds => match intsD r with
    | some ns => (rowsD ds).map (ns :: ·)
    | none => none
  | _ :: _ => none
theorem rowsD_dp {A : List Addr} {H : Hp} : ∀ {ds : List D} {rs : List (List Int)} {vs : List V}, rowsD ds = some rs → RepL X.K g A H vs ds → DpAll X.K H vs (rs.map encT) ∧ ∀ x r, (x, r) ∈ vs.zip rs → Rep X.K g A H x (tIr r)
  | [], rs, vs, h, r => by cases h; cases r; exact ⟨.nil, fun x r h => by cases h⟩
  | d :: ds, rs, vs, h, r => by
    cases r with
    | cons h1 h2 =>
      cases d <;> try (cases h)
      rename_i r'
      unfold rowsD at h
      split at h
      · rename_i ns hn
        simp only [Option.map_eq_some_iff] at h
        obtain ⟨ms, e, rfl⟩ := h
        obtain ⟨a1, a2⟩ := rowsD_dp e h2
        cases h1 with
        | @tup a ws _ hq l =>
          have ew := intsD_v hn l
          subst ew
          refine ⟨.cons (.tup hq.t (dpAll_ints ns)) a1, fun x r hx => ?_⟩
          rw [List.zip_cons_cons] at hx
          rcases List.mem_cons.mp hx with e | hx
          · cases e; exact .tup hq (repL_ints ns)
          · exact a2 x r hx
      · cases h
noncomputable def bSortedR : FL := fun ds m => match ds with
  | [.ref n] => match m[n]? with
    | some (.lst xs) => match intsD xs with
      | some _ => bSorted ds m
      | none => match rowsD xs with
        | some rs => if rs.length ≤ 1 ∨ ∀ r, r ∈ rs → r ≠ [] then .ok (.ref m.length) (m ++ [.lst ((sortR rs).map tIr)]) else .no
        | none => .no
    | _ => bSorted ds m
  | _ => bSorted ds m
theorem repL_rows {A : List Addr} {H : Hp} {Z : List (V × List Int)} (hz : ∀ x r, (x, r) ∈ Z → Rep X.K g A H x (tIr r)) : ∀ {ys : List V} {rs : List (List Int)}, Paired (fun x r => (x, r) ∈ Z) ys rs → RepL X.K g A H ys (rs.map tIr)
  | _, _, .nil => .nil
  | _, _, .cons h l => .cons (hz _ _ h) (repL_rows hz l)
theorem ca_sortedR (hu : X.A.units + 65 < cLine) : CaA X g (.builtin "sorted") bSortedR := by
  obtain ⟨r, hr, hr2⟩ := (ca_sorted (X := X) (g := g)).out
  refine ⟨_, caR_or (cr_sortedR hu) hr, fun A H mem xs ds Q W R rs p => ?_⟩
  unfold bSortedR at p
  split at p
  · rename_i n
    split at p
    · rename_i ys hm
      split at p
      · exact .inr (hr2 A H mem xs _ Q W R rs p)
      · split at p
        · rename_i rows hrw
          split at p
          · rename_i hc
            obtain ⟨v, rfl, rv⟩ := repL_one rs
            cases rv with
            | @ref _ a ha =>
              obtain ⟨vs, e1, q1⟩ := R.cell _ _ _ ha hm
              obtain ⟨d1, d2⟩ := rowsD_dp hrw q1
              refine .inl ⟨a, vs, rows, rfl, .inl (.inl e1), d1, hc, fun zs q hp hq => ?_⟩
              obtain ⟨s2, r2, e2⟩ := R.alloc (o := .lst zs) (c := .lst ((sortR rows).map tIr)) hq fun s => ⟨_, upd_same, (repL_rows d2 hp).stab s⟩
              exact p _ _ _ s2 r2 (.ref e2)
          · exact p.elim
        · exact p.elim
    · exact .inr (hr2 A H mem xs _ Q W R rs p)
  · exact .inr (hr2 A H mem xs _ Q W R rs p)
end
end Ab
set_option Elab.async false
set_option linter.all false
set_option maxRecDepth 100000
/-! # type(x) is type(y), an own == -/
namespace L2
open PySem PySem.Spec PyProof.Rows
section
variable {X : Cx}
/-- type(x), x an instance or a tuple -/
def rTyIns (K : PySem.W.Frag) : List V → Hp → VK → Prop := fun xs H Q => ∃ a, xs = [V.ref a] ∧ ((∃ C dx fs, H a = some (.ins C dx fs) ∧ Q (.ref C) H) ∨ (∃ ys, SqT K H a ys ∧ Q (.ty "tuple") H))
theorem cr_tyIns : CallR X (.type "type") (rTyIns X.K) := by
  intro pins s σ H xs us Q I r h
  obtain ⟨a, rfl, h⟩ := h
  rw [Vals.ref1 r]
  rcases h with ⟨C, dx, fs, ha, q⟩ | ⟨ys, hy, q⟩
  · obtain ⟨mA, J, _⟩ := ins_get I.hok ha
    exact call_type_obj J.obj rfl ⟨.ref C, H, I, rfl, q⟩
  · obtain ⟨its, rv, ht, _⟩ := I.tuple hy
    exact call_type_of ht.typeIs rfl ⟨.ty "tuple", H, I, rfl, q⟩
def rIsTyIns : R2 := fun x y H Q => (∃ a, x = .ref a ∧ y = .ref a ∧ Q (.bl true) H) ∨ ∃ a T, x = .ref a ∧ y = .ty T ∧ Q (.bl false) H
theorem op_isTyInsB : OpR X (compareOp .Is) rIsTyIns := by
  intro pins s σ H x y v u Q I rx ry h
  rcases h with ⟨a, rfl, rfl, q⟩ | ⟨a, T, rfl, rfl, q⟩
  · cases rx; cases ry
    exact wpAny_bind (wpAny_isSame_ref_self (wpAny_pure ⟨.bl true, H, I, rfl, q⟩))
  · cases rx; cases ry
    exact wpAny_bind (show wpAny _ _ (pure (Value.ref a == Value.type T)) _ _ _ from wpAny_pure (wpAny_pure ⟨.bl false, H, I, rfl, q⟩))
/-- x == y by the def of x's class; y of the same class or a tuple -/
def rEqIns (K : PySem.W.Frag) (C : Addr) (sp : Sp) : R2 := fun x y H Q => ∃ a dx fs, x = .ref a ∧ H a = some (.ins C dx fs) ∧ ((∃ b dy gs, y = .ref b ∧ H b = some (.ins C dy gs)) ∨ ∃ b ys, y = .ref b ∧ SqT K H b ys) ∧ sp [x, y] H (fun v H' => (∃ q, v = .bl q) ∧ Q v H') (fun _ _ _ => False)
theorem op_eqIns {n : Nat} {C f : Addr} {fd : FuncData} {ps : List Str} {sp : Sp} (F : FnOk X.prog X.w X.K X.mg X.base (CX X.prog X.w) n f fd ps sp) (hs : PySem.W.findIn X.K (.ref C) "__eq__" = some (some (.ref f))) (hf : PySem.W.isFn X.K (.ref f) = true) (hb : Binds X.K fd ps []) (hn : PySem.W.subIn X.K (.type "tuple") (.ref C) = some false) (hr : Room n X.A) :
    OpR X (compareOp .Eq) (rEqIns X.K C sp) := by
  intro pins s σ H x y v u Q I rx ry h
  obtain ⟨a, dx, fs, rfl, ha, hy, hsp⟩ := h
  cases rx
  obtain ⟨mA, J, _⟩ := ins_get I.hok ha
  obtain ⟨od, Ja, _⟩ := J.look
  obtain ⟨m, hF⟩ := I.fr
  have hl := F.len _ _ _ _ hsp
  have back : wpAny (model X.prog X.w) X.A (call (Value.ref f) [Value.ref a, u]) (PySem.W.CmpBack (EP X pins σ Q)) X.xe s := by
    refine wpAny_call (codeAny_mono (F.run X.A X.stack s H { pos := [Value.ref a, u] } [Value.ref a, u] _ _ _ hr I.env0 (by
      have e := hb s [Value.ref a, u] I.kIn (by simpa using hl)
      simpa using e) (.cons (show RelV (.ref a) (.ref a) from rfl) (.cons ry .nil)) hsp) fun r s' hq => ?_)
    match r, hq with
    | .ok (.ret w), hq =>
      obtain ⟨z, H', I', rz, ⟨q, rfl⟩, hQ⟩ := I.after hq
      obtain rfl : w = Value.bool q := rz
      exact ⟨.bl q, H', I', rfl, hQ⟩
    | .error e, hq =>
      obtain ⟨_, _, _, _, _, _, _, _, _, _, _, _, z⟩ := hq
      exact z.elim
  show wpAny _ _ (richCompare .Eq (Value.ref a) u) _ _ _
  rcases hy with ⟨b, dy, gs, rfl, hb'⟩ | ⟨b, ys, rfl, hb'⟩
  · cases ry
    obtain ⟨mB, J', _⟩ := ins_get I.hok hb'
    obtain ⟨od', Jb, _⟩ := J'.look
    exact PySem.W.cmp_K (Room.units0 hr) hF I.ok.mod.kin Ja Jb.type (by simp [PySem.W.notFirst]) hs hf back
  · cases ry
    obtain ⟨its, rv, ht, _⟩ := I.tuple hb'
    obtain ⟨ob, ho, hc⟩ : s.TypeIs (.ref b) "tuple" := ht.typeIs
    refine PySem.W.cmp_K (tb := .type "tuple") (Room.units0 hr) hF I.ok.mod.kin Ja (fun A' Q' E' s2 hk q => wpAny_typeOf ⟨ob, hk _ _ ho, hc⟩ q) ?_ hs hf back
    unfold PySem.W.notFirst
    rw [hn]
    simp
end
end L2
namespace Ab
open PySem PySem.Spec PyProof.Rows L2
section
variable {X : Cx} {g : Glb} {γ : Gam} {p pos : Pos}
/-- type(a) is type(b) -/
def eTyIs (a b : AE) : AE := fun env m => (a env m).bind fun x m1 => match x with
  | .ref n => match m1[n]? with
    | some (.ins c _) => (b env m1).bind fun y m2 => match y with
      | .ref k => match m2[k]? with
        | some (.ins c' _) => if c' = c then .ok (.bl true) m2 else .no
        | _ => .no
      | .tup _ => .ok (.bl false) m2
      | _ => .no
    | _ => .no
  | _ => .no
theorem se_tyIs {a b : Expr} {ia ib : AE} {p1 p2 q1 q2 : Pos} (hm : X.mg "type" = none) (ha : SE X g γ a ia) (hb : SE X g γ b ib) (hg : L2.Gl X "type" := by rfl) (hv : bootBuiltins "type" = some (.type "type") := by decide +kernel)
    (h1 : starEach [a] X.env = (false, eval a X.env) :: starEach [] X.env := by rfl) (h2 : starEach [b] X.env = (false, eval b X.env) :: starEach [] X.env := by rfl) (hk : behindInMarks .Is (.Call (.Name "type" q1) [b] [] q2) = false := by first | rfl | exact nomark _) :
    SE X g γ (.Compare (.Call (.Name "type" p1) [a] [] p2) [.Is] [.Call (.Name "type" q1) [b] [] q2] pos) (eTyIs ia ib) := ⟨fun W tk => by
  obtain ⟨ta, pa, qa⟩ := ha.out W tk
  obtain ⟨tb, pb, qb⟩ := hb.out W tk
  refine ⟨_, pe_cmpR op_isTyInsB (pe_callTy cr_tyIns hg hm hv (pa_cons pa pa_nil h1) (by decide) (by decide) h1 rfl) (pe_callTy cr_tyIns hg hm hv (pa_cons pb pa_nil h2) (by decide) (by decide) h2 rfl) hk, fun σ env A H mem Q hgm her hr hp => ?_⟩
  refine qa σ env A H mem _ hgm her hr (hp.bnd fun v A1 H1 d m s1 r1 rv p1 => ?_)
  split at p1
  · rename_i n
    split at p1
    · rename_i c fs hm1
      cases rv with
      | @ref _ a' ha' =>
        obtain ⟨dx, fv, e1, _⟩ := r1.cell _ _ _ ha' hm1
        refine ⟨a', rfl, .inl ⟨_, dx, fv, e1, ?_⟩⟩
        refine qb σ env A1 H1 m _ (hgm.pre s1.pre) (her.stab s1) r1 (p1.bnd fun w A2 H2 d2 m2 s2 r2 rw2 p2 => ?_)
        split at p2
        · rename_i k
          split at p2
          · rename_i c' fs' hm2
            split at p2
            · rename_i ec
              subst ec
              cases rw2 with
              | @ref _ b' hb' =>
                obtain ⟨dy, gv, e2, _⟩ := r2.cell _ _ _ hb' hm2
                exact ⟨b', rfl, .inl ⟨_, dy, gv, e2, .inl ⟨_, rfl, rfl, p2 _ A2 H2 .refl r2 (.bl _)⟩⟩⟩
            · exact p2.elim
          · exact p2.elim
        · cases rw2 with
          | @tup b' ws _ hq l => exact ⟨b', rfl, .inr ⟨ws, hq.t, .inr ⟨_, _, rfl, rfl, p2 _ A2 H2 .refl r2 (.bl _)⟩⟩⟩
        · exact p2.elim
    · exact p1.elim
  · exact p1.elim⟩
/-- a class with an own == -/
structure EqA (P : Program) (w : World) (K : PySem.W.Frag) (mg : Str → Option Value) (base : Heap) (g : Glb) (k : Nat) (c : Str) (af : AF) : Prop where
  ex : ∃ f fd ps, PySem.W.findIn K (.ref (g.ca c)) "__eq__" = some (some (.ref f)) ∧ PySem.W.isFn K (.ref f) = true ∧ Binds K fd ps [] ∧ PySem.W.subIn K (.type "tuple") (.ref (g.ca c)) = some false ∧ FnOk P w K mg base (L2.CX P w) k f fd ps (spOf K g 2 af)
def asBl (r : R D) : R D := match r with
  | .ok (.bl b) m2 => .ok (.bl b) m2
  | _ => .no
/-- == with an instance on the left; else as ever -/
def dEqO (c : Str) (F : AF) : F2 := fun x y m => match x with
  | .ref n => match m[n]? with
    | some (.ins c' _) => if c' = c then (match y with
      | .ref k => match m[k]? with
        | some (.ins c2 _) => if c2 = c then asBl (F [x, y] m) else .no
        | _ => .no
      | .tup _ => asBl (F [x, y] m)
      | _ => .no) else .no
    | _ => dEq x y m
  | _ => dEq x y m
theorem opA_eqO {k : Nat} {c : Str} {F : AF} (he : EqA X.prog X.w X.K X.mg X.base g k c F) (hr : Room k X.A) (hu : X.A.units + 64 < cLine) : OpA X g (compareOp .Eq) (dEqO c F) := by
  obtain ⟨f, fd, ps, h1, h2, h3, h4, h5⟩ := he.ex
  obtain ⟨r, ho, hr2⟩ := (opA_eq (X := X) (g := g) hu).out
  refine ⟨_, opR_or (op_eqIns h5 h1 h2 h3 h4 hr) ho, fun A H mem x y dx dy Q W R rx ry p => ?_⟩
  unfold dEqO at p
  split at p
  · rename_i n
    split at p
    · rename_i c' fs hm
      split at p
      · rename_i ec
        subst ec
        have rx0 := rx
        have ry0 := ry
        cases rx with
        | @ref _ a ha =>
          obtain ⟨d1, fv, e1, _⟩ := R.cell _ _ _ ha hm
          have fin : ∀ {b : V}, Rep X.K g A H b dy → Post X.K g (Rep X.K g) A H (asBl (F [.ref n, dy] mem)) Q W → spOf X.K g 2 F [.ref a, b] H (fun v H' => (∃ q, v = .bl q) ∧ Q v H') (fun _ _ _ => False) := fun rb hp => by
            refine ⟨rfl, A, mem, [.ref n, dy], R, .cons (.ref ha) (.cons rb .nil), ?_⟩
            unfold asBl at hp
            cases e : F [.ref n, dy] mem with
            | ok d m2 =>
              rw [e] at hp
              cases d with
              | bl b => exact fun v A2 H2 s2 r2 rv => ⟨by cases rv; exact ⟨b, rfl⟩, hp v A2 H2 s2 r2 rv⟩
              | _ => exact hp.elim
            | er x m => rw [e] at hp; exact hp.elim
            | no => rw [e] at hp; exact hp.elim
          split at p
          · rename_i k'
            split at p
            · rename_i c2 gs hm2
              split at p
              · rename_i ec2
                subst ec2
                cases ry with
                | @ref _ b hb =>
                  obtain ⟨d2, gv, e2, _⟩ := R.cell _ _ _ hb hm2
                  exact .inl ⟨a, d1, fv, rfl, e1, .inl ⟨b, d2, gv, rfl, e2⟩, fin (.ref hb) p⟩
              · exact p.elim
            · exact p.elim
          · cases ry with
            | @tup b ws _ hq l => exact .inl ⟨a, d1, fv, rfl, e1, .inr ⟨b, ws, rfl, hq.t⟩, fin ry0 p⟩
          · exact p.elim
      · exact p.elim
    · exact .inr (hr2 A H mem x y _ dy Q W R rx ry p)
  · exact .inr (hr2 A H mem x y _ dy Q W R rx ry p)
end
end Ab
set_option Elab.async false
set_option linter.all false
set_option maxRecDepth 100000
/-! # more rules: truth, powers of great numbers, rows times a number, x += e, list(range(..)) -/
namespace L2
open PySem PySem.Spec PyProof.Rows
section
variable {X : Cx}
def CPowW (i j : Int) : Prop := 0 ≤ j ∧ (Builtin.Int.intBits i : Int) * j ≤ 2 ^ 27
theorem op_powW : OpR X (binaryOp .Pow) (rI CPowW fun i j => .int (i ^ j.toNat)) := opI fun _ _ _ _ _ _ _ hc q => pow_int hc.1 hc.2 q
/-- t * k, k at least 2 -/
def rRepF (K : PySem.W.Frag) : R2 := fun x y H Q => ∃ l k xs, x = .ref l ∧ y = .int k ∧ SqT K H l xs ∧ xs ≠ [] ∧ 2 ≤ k ∧ k ≤ 1000 ∧ xs.length ≤ 1000 ∧ NewT (List.replicate k.toNat xs).flatten Q H
theorem op_repF : OpR X (binaryOp .Mult) (rRepF X.K) := by
  intro pins s σ H vt vk ut uk Q I rt rk hh
  obtain ⟨at1, times, row, rfl, rfl, hrow, hne, two, thou, small, new⟩ := hh
  cases rt
  obtain ⟨tok, rfl⟩ := rk
  obtain ⟨vals, rv, ⟨⟨oc, od, odat, osl⟩, got, isT, cnt, isD⟩, _⟩ := I.tuple hrow
  dsimp only at isT isD
  subst isT isD
  have same : vals.length = row.length := rv.length.symm
  have notNil : vals.toArray.isEmpty = false := by
    cases vals with
    | nil => exact absurd (List.eq_nil_of_length_eq_zero same.symm) hne
    | cons _ _ => rfl
  have size0 : vals.toArray.size = row.length := by rw [List.size_toArray, same]
  have mill : ((vals.toArray.size : Nat) : Int) * times ≤ 1000000 := by
    rw [size0]
    have := Int.mul_le_mul_of_nonneg_right (show ((row.length : Nat) : Int) ≤ 1000 by omega) (show (0 : Int) ≤ times by omega)
    omega
  have total : times.toNat * row.length ≤ 1000 * 1000 := Nat.mul_le_mul (by omega) small
  have inRange : (decide (times < -(2 ^ 63)) || decide (times ≥ 2 ^ 63)) = false := by
    rw [decide_eq_false (show ¬ times < -(2 ^ 63) by omega), decide_eq_false (show ¬ times ≥ 2 ^ 63 by omega), Bool.or_false]
  have noSelf : (vals.toArray.isEmpty || times == 1) = false := by
    rw [notNil, Bool.false_or, beq_eq_false_iff_ne]; omega
  have noEmpty : (decide (times ≤ 0) || vals.toArray.isEmpty) = false := by
    rw [notNil, Bool.or_false, decide_eq_false_iff_not]; omega
  have few : Builtin.Tuple.tupleTooMany (((vals.toArray.size : Nat) : Int) * times) = false := by
    unfold Builtin.Tuple.tupleTooMany
    rw [sizeLine_eq, decide_eq_false_iff_not]; omega
  have line : (List.replicate times.toNat row).flatten.length ≤ sizeLine := by rw [PyProof.Rows.lm_len_rep_flat, sizeLine_eq]; omega
  have line2 : (List.foldl (fun x1 x2 => x1 ++ x2) #[] (List.replicate times.toNat vals.toArray)).size ≤ sizeLine := by
    rw [size_rep, List.size_toArray, PyProof.Rows.lm_len_rep_flat, sizeLine_eq, same]; omega
  refine wpAny_binaryOp_repeat_ref (T := "tuple") (U := "int") (by decide) ⟨_, got, rfl⟩ (fun s' => typeIs_int s' times tok) noFill_tuple_mul F.fills_int_mul F.slot_int_rmul repeat_tuple F.slot_int_index.lookup
    (call_meets F.slot_int_rmul (typeIs_int s times tok) F.entry_int_rmul (F.args_int_rmul_2 _ _) (int_rmul_tuple times tok at1 vals.toArray cnt od osl) ⟨got, rfl, ⟨_, got, rfl⟩, ?_⟩)
  refine call_meets F.slot_tuple_mul ⟨_, got, rfl⟩ F.entry_tuple_mul (F.args_tuple_mul_2 _ _) (tuple_mulW at1 vals.toArray cnt od osl times tok inRange noSelf noEmpty (by omega) few line2) ⟨got, ?_⟩
  rw [size_rep]
  exact laidT I line (rv.rep times.toNat) new
end
end L2
set_option Elab.async false
set_option linter.all false
set_option maxRecDepth 100000
/-! # dicts whose keys are tuples of ints -/
namespace L2
open PySem PySem.Spec PyProof.Rows Ab
abbrev TK := List (List Int × Addr × V)
def dtGet (ks : TK) (k : List Int) : Option V := (ks.find? fun x => decide (x.1 = k)).map (·.2.2)
def dtPut (ks : TK) (k : List Int) (b : Addr) (v : V) : TK := if (dtGet ks k).isSome = true then ks.map (fun x => if x.1 = k then (x.1, x.2.1, v) else x) else ks ++ [(k, b, v)]
def dtDel (ks : TK) (k : List Int) : TK := ks.filter fun x => !decide (x.1 = k)
def TKeys (K : PySem.W.Frag) (H : Hp) (ks : TK) : Prop := ∀ x ∈ ks, SqN K H x.2.1 (x.1.map V.int)
abbrev TRel (p : List Int × Addr × V) (q : List Int × Addr × Value) : Prop := p.1 = q.1 ∧ p.2.1 = q.2.1 ∧ RelV p.2.2 q.2.2
theorem entryT_eq (P P' : Program) (w w' : World) (x : List Int × Addr × Value) : entryOfKey (tupleKind (intKind P w)) x = entryOfKey (tupleKind (intKind P' w')) x := rfl
theorem itemsI {P : Program} {w : World} : ∀ {k : List Int} {its : List Value}, Vals (k.map V.int) its → ItemsAre (intKind P w) k its
  | [], _, h => by cases h; exact .nil
  | i :: r, _, h => by
    cases h with
    | cons h1 h2 =>
      obtain ⟨t, rfl⟩ := h1
      exact .cons (by show Value.isInt i (Value.int i t) = true; unfold Value.isInt; exact beq_self_eq_true i) (itemsI h2)
section
variable {X : Cx} {pins : List (Addr × Obj)} {σ : St} {H : Hp} {s : Shared} {a b : Addr} {k : List Int} {ks : TK} {v : V}
theorem tkey_of (I : Inv X pins σ H s) (e : SqN X.K H b (k.map V.int)) : (tupleKind (intKind X.prog X.w)).is s.heap k b := by
  obtain ⟨its, r, ⟨o, h1, h2, n, h3⟩, _⟩ := I.tuple e.t
  exact ⟨o, its.toArray, n, h1, h2, h3, by simpa using itemsI r⟩
theorem dit_of (I : Inv X pins σ H s) (e : H a = some (.ext (DtH a ks))) (hk : TKeys X.K H ks) : ∃ xs, Paired TRel ks xs ∧ s.heap.DictOfH (tupleKind (intKind X.prog X.w)) a xs := by
  obtain ⟨⟨xs, o, es, ep, hp, h1, h2, h3, h4, h5⟩, _, _⟩ := I.hok a _ e
  have key : ∀ {l : TK} {m : List (List Int × Addr × Value)}, Paired TRel l m → (∀ x ∈ l, SqN X.K H x.2.1 (x.1.map V.int)) → ∀ x ∈ m, (tupleKind (intKind X.prog X.w)).is s.heap x.1 x.2.1 := by
    intro l m hlm
    induction hlm with
    | nil => intro _ x hx; cases hx
    | @cons p q ps qs z _ ih =>
      intro hall x hx
      rcases List.mem_cons.mp hx with rfl | hx
      · rw [← z.1, ← z.2.1]; exact tkey_of I (hall p (List.mem_cons_self ..))
      · exact ih (fun y hy => hall y (List.mem_cons_of_mem _ hy)) x hx
  exact ⟨xs, hp, o, es, ep, h1, h2, h3, h4 _ _, key hp hk, h5⟩
theorem dit_get : ∀ {ks : TK} {xs : List (List Int × Addr × Value)}, Paired TRel ks xs → ∀ k, (dtGet ks k = none ∧ atKey xs k = none) ∨ ∃ v b u, dtGet ks k = some v ∧ atKey xs k = some (b, u) ∧ RelV v u
  | _, _, .nil, k => .inl ⟨rfl, rfl⟩
  | _, _, .cons (a := p) (b := q) (l₁ := ps) (l₂ := qs) z t, k => by
    unfold dtGet atKey
    by_cases e : q.1 = k
    · have e' : p.1 = k := z.1.trans e
      exact .inr ⟨p.2.2, q.2.1, q.2.2, by simp [e'], by simp [e], z.2.2⟩
    · have e' : ¬ p.1 = k := fun y => e (z.1.symm.trans y)
      have := dit_get t k
      unfold dtGet atKey at this
      simpa [e, e'] using this
theorem dit_new {h' : Heap} {xs : List (List Int × Addr × Value)} (hp : Paired TRel ks xs) (dd : h'.DictOfH (tupleKind (intKind X.prog X.w)) a xs) (H' : Hp) : ObjOk X.prog X.w H' h' a (.ext (DtH a ks)) := by
  obtain ⟨o, es, ep, h1, h2, h3, h4, _, h5⟩ := dd
  refine ⟨⟨xs, o, es, ep, hp, h1, h2, h3, fun P w => ?_, h5⟩, ⟨o, h1⟩, fun g1 g2 ⟨xs, o, es, ep, z1, z2, z3⟩ hg => ⟨xs, o, es, ep, z1, hg o z2, z3⟩⟩
  rw [h4]
  exact List.map_congr_left fun x _ => entryT_eq _ _ _ _ x
theorem dit_stored (b : Addr) {r : Value} (rv : RelV v r) {ks : TK} {xs : List (List Int × Addr × Value)} (hp : Paired TRel ks xs) (k : List Int) : Paired TRel (dtPut ks k b v) (storedH xs k b r) := by
  unfold dtPut storedH
  have snoc : ∀ {l : TK} {m : List (List Int × Addr × Value)}, Paired TRel l m → Paired TRel (l ++ [(k, b, v)]) (m ++ [(k, b, r)]) := by
    intro l m z
    induction z with
    | nil => exact .cons ⟨rfl, rfl, rv⟩ .nil
    | cons z _ ih => exact .cons z ih
  have repl : ∀ {l : TK} {m : List (List Int × Addr × Value)}, Paired TRel l m → Paired TRel (l.map (fun x => if x.1 = k then (x.1, x.2.1, v) else x)) (m.map (putAt k r)) := by
    intro l m z
    induction z with
    | nil => exact .nil
    | @cons p q _ _ z _ ih =>
      refine .cons ?_ ih
      show TRel (if p.1 = k then (p.1, p.2.1, v) else p) (putAt k r q)
      unfold putAt
      by_cases e : p.1 = k
      · rw [if_pos e, if_pos (z.1.symm.trans e)]; exact ⟨z.1, z.2.1, rv⟩
      · rw [if_neg e, if_neg (fun y => e (z.1.trans y))]; exact z
  rcases dit_get hp k with ⟨e1, e2⟩ | ⟨_, _, _, e1, e2, _⟩
  · rw [e1, e2, if_neg (by simp), if_neg (by simp)]; exact snoc hp
  · rw [e1, e2, if_pos (by simp), if_pos (by simp)]; exact repl hp
theorem paired_len : ∀ {ks : TK} {xs : List (List Int × Addr × Value)}, Paired TRel ks xs → ks.length = xs.length
  | _, _, .nil => rfl
  | _, _, .cons _ t => by simp [paired_len t]
/-- d[k], there -/
theorem ix_dit (hu : X.A.units + 1 < cLine) : IxR X (fun x y H Q => ∃ a b ks k v, x = .ref a ∧ y = .ref b ∧ H a = some (.ext (DtH a ks)) ∧ TKeys X.K H ks ∧ SqN X.K H b (k.map V.int) ∧ dtGet ks k = some v ∧ Q v H) := by
  intro value slice pins s σ H x y vx vy Q I rx ry h hs
  obtain ⟨a, b, ks, k, v, rfl, rfl, e, hk, hb, hg, q⟩ := h
  obtain rfl : vx = Value.ref a := rx
  obtain rfl : vy = Value.ref b := ry
  obtain ⟨xs, hp, dd⟩ := dit_of I e hk
  have ty := dd.typeIs
  have g1 : wpAny (model X.prog X.w) X.A (getItem (.ref a) (.ref b)) (EP X pins σ Q) X.xe s := by
    rcases dit_get hp k with ⟨e1, _⟩ | ⟨v', c, u, e1, e2, rv⟩
    · rw [hg] at e1; cases e1
    · rw [hg] at e1; cases e1
      exact wpAny_getItem_heap (tupleKind_room_in1 hu) (tkey_of I hb) dd e2 ⟨v, H, I.tok _, rv, q⟩
  unfold PyProof.Rows.subscriptTail
  refine wpAny_bind ?_
  rw [PySem.getitemInPython_of_ne ty.not_modules]
  refine wpAny_bind (wpAny_specialOf ty PySem.F.slot_dict_getitem.lookup ?_)
  have last : wpAny (model X.prog X.w) X.A (subscripted slice false (Value.ref a) (Value.ref b)) (fun r z => wpAny (model X.prog X.w) X.A (letTemporaryGo value (Value.ref a) r >>= fun _ => pure r) (EP X pins σ Q) X.xe z) X.xe s := by
    rw [hs]
    exact wpAny_operating (wpAny_mono g1 (fun r z hz => wpAny_bind (wpAny_letTemporaryGo (wpAny_pure hz))) fun _ _ x => x)
  first
    | exact wpAny_pure (wpAny_bind last)
    | exact wpAny_bind (wpAny_pure (wpAny_bind last))
    | exact wpAny_bind last
theorem op_inDit (hu : X.A.units + 1 < cLine) : OpR X (compareOp .In) (fun y x H Q => ∃ a b ks k, x = .ref a ∧ y = .ref b ∧ (a == sysModules) = false ∧ H a = some (.ext (DtH a ks)) ∧ TKeys X.K H ks ∧ SqN X.K H b (k.map V.int) ∧ Q (.bl (dtGet ks k).isSome) H) := by
  intro pins s σ H y x vy vx Q I ry rx h
  obtain ⟨a, b, ks, k, rfl, rfl, hm, e, hk, hb, q⟩ := h
  obtain rfl : vx = Value.ref a := rx
  obtain rfl : vy = Value.ref b := ry
  obtain ⟨xs, hp, dd⟩ := dit_of I e hk
  refine wpAny_in_heap (tupleKind_room_in1 hu) (tkey_of I hb) hm dd ?_
  rcases dit_get hp k with ⟨e1, e2⟩ | ⟨_, _, _, e1, e2, _⟩
  · rw [e1] at q; rw [e2]; exact ⟨.bl false, H, I.tok _, rfl, q⟩
  · rw [e1] at q; rw [e2]; exact ⟨.bl true, H, I.tok _, rfl, q⟩
theorem op_notInDit (hu : X.A.units + 1 < cLine) : OpR X (compareOp .NotIn) (fun y x H Q => ∃ a b ks k, x = .ref a ∧ y = .ref b ∧ (a == sysModules) = false ∧ H a = some (.ext (DtH a ks)) ∧ TKeys X.K H ks ∧ SqN X.K H b (k.map V.int) ∧ Q (.bl (!(dtGet ks k).isSome)) H) := by
  intro pins s σ H y x vy vx Q I ry rx h
  obtain ⟨a, b, ks, k, rfl, rfl, hm, e, hk, hb, q⟩ := h
  obtain rfl : vx = Value.ref a := rx
  obtain rfl : vy = Value.ref b := ry
  obtain ⟨xs, hp, dd⟩ := dit_of I e hk
  refine wpAny_notIn_heap (tupleKind_room_in1 hu) (tkey_of I hb) hm dd ?_
  rcases dit_get hp k with ⟨e1, e2⟩ | ⟨_, _, _, e1, e2, _⟩
  · rw [e1] at q; rw [e2]; exact ⟨.bl true, H, I.tok _, rfl, q⟩
  · rw [e1] at q; rw [e2]; exact ⟨.bl false, H, I.tok _, rfl, q⟩
/-- d[k] = v -/
theorem set_dit (hu : X.A.units + 1 < cLine) : PSet X (fun o i v H Q => ∃ a b ks k, o = .ref a ∧ i = .ref b ∧ H a = some (.ext (DtH a ks)) ∧ TKeys X.K H ks ∧ SqN X.K H b (k.map V.int) ∧ ks.length < sizeLine ∧ Q (upd H a (.ext (DtH a (dtPut ks k b v))))) := by
  intro pins s σ H o i v ov iv u Q I ro ri rv h
  obtain ⟨a, b, ks, k, rfl, rfl, e, hk, hb, hz, q⟩ := h
  obtain rfl : ov = Value.ref a := ro
  obtain rfl : iv = Value.ref b := ri
  obtain ⟨xs, hp, dd⟩ := dit_of I e hk
  have hl := paired_len hp
  refine wpAny_setItem_heap (hsz := by omega) (tupleKind_room_in1 hu) (tkey_of I hb) dd fun h' dd' hs => ⟨_, ?_, q⟩
  have ex : ∃ z, h'.get? a = some z := let ⟨z, _, _, hz, _⟩ := dd'; ⟨z, hz⟩
  exact I.write (x := a) (e := a) (by rw [e]; exact True.intro) (.inl rfl) (fun c z hc he => (hs.2 c hc).trans he) ex (dit_new (dit_stored b rv hp k) dd' _)
/-- the same within a dict comprehension -/
theorem put_dit {A : Around} {E : Value → Shared → Prop} {r : Value} {Q : Unit → Shared → Prop} (hu : A.units < cLine) (I : Inv X pins σ H s) (e : H a = some (.ext (DtH a ks))) (hk : TKeys X.K H ks) (hb : SqN X.K H b (k.map V.int)) (hz : ks.length < sizeLine) (rv : RelV v r)
    (q : ∀ s', Inv X pins σ (upd H a (.ext (DtH a (dtPut ks k b v)))) s' → Q () s') : wpAny (model X.prog X.w) A (dictSet a (.ref b) r) Q E s := by
  obtain ⟨xs, hp, dd⟩ := dit_of I e hk
  have hl := paired_len hp
  refine wpAny_dictSet_heap (hsz := by omega) (knd := tupleKind (intKind X.prog X.w)) hu (tkey_of I hb) dd fun h' dd' hs => q _ ?_
  have ex : ∃ z, h'.get? a = some z := let ⟨z, _, _, hz, _⟩ := dd'; ⟨z, hz⟩
  exact I.write (x := a) (e := a) (by rw [e]; exact True.intro) (.inl rfl) (fun c z hc he => (hs.2 c hc).trans he) ex (dit_new (dit_stored b rv hp k) dd' _)
theorem dit_empty (hh : Heap) (H' : Hp) : ObjOk X.prog X.w H' (hh.push { cls := .type "dict", data := .dict #[] }) hh.objs.size (.ext (DtH hh.objs.size [])) :=
  dit_new .nil (Heap.DictOfH.new hh) H'
theorem pe_dnewD {pos : Pos} : PE X (.Dict [] [] pos) (fun _ H Q => ∀ p, H p = none → (p == sysModules) = false → Q (.ref p) (upd H p (.ext (DtH p [])))) := ⟨fun pins s σ H Q I h => by
  refine wpAny_Dict_empty ⟨.ref s.heap.objs.size, _, I.laid (a := s.heap.objs.size) (o := .ext (DtH s.heap.objs.size [])) (t' := s.toks) (fun _ _ q => Heap.get?_push_of_some _ q) (Nat.le_refl _) (dit_empty s.heap _), rfl, h _ (I.hok.fresh (Nat.le_refl _)) ?_⟩
  exact beq_eq_false_iff_ne.mpr (Ne.symm (Nat.ne_of_lt I.big))⟩
end
end L2
set_option Elab.async false
set_option linter.all false
set_option maxRecDepth 100000
namespace Ab
open PySem PySem.Spec PyProof.Rows L2
def keyT : D → Option (List Int)
  | .tup ds => intsD ds
  | _ => none
def valT (kvs : List (List Int × D)) (k : List Int) : Option D := (kvs.find? fun x => decide (x.1 = k)).map (·.2)
def putT (kvs : List (List Int × D)) (k : List Int) (v : D) : List (List Int × D) := if (valT kvs k).isSome = true then kvs.map (fun x => if x.1 = k then (x.1, v) else x) else kvs ++ [(k, v)]
section
variable {X : Cx} {g : Glb} {A : List Addr} {H : Hp} {mem : Mem}
theorem keyT_rep {v : V} {d : D} {k : List Int} (r : Rep X.K g A H v d) (h : keyT d = some k) : ∃ b, v = .ref b ∧ SqN X.K H b (k.map V.int) := by
  unfold keyT at h
  cases r with
  | @tup a vs ds hs l =>
    have e := intsD_v h l
    subst e
    exact ⟨a, rfl, hs⟩
  | _ => cases h
theorem RepT.keys : ∀ {ks : TK} {kvs : List (List Int × D)}, RepT X.K g A H ks kvs → TKeys X.K H ks
  | _, _, .nil => fun _ h => nomatch h
  | _, _, .cons h1 _ t => fun x hx => by
    rcases List.mem_cons.mp hx with rfl | hx
    · exact h1
    · exact RepT.keys t x hx
theorem RepT.get (k : List Int) : ∀ {ks : TK} {kvs : List (List Int × D)}, RepT X.K g A H ks kvs → (dtGet ks k = none ∧ valT kvs k = none) ∨ ∃ v d, dtGet ks k = some v ∧ valT kvs k = some d ∧ Rep X.K g A H v d
  | _, _, .nil => .inl ⟨rfl, rfl⟩
  | _, _, .cons (k := k') (v := v) (d := d) _ h t => by
    unfold dtGet valT
    by_cases e : k' = k
    · exact .inr ⟨v, d, by simp [e], by simp [e], h⟩
    · have := RepT.get k t
      unfold dtGet valT at this
      simpa [e] using this
theorem RepT.put {k : List Int} {b : Addr} {v : V} {d : D} (hb : SqN X.K H b (k.map V.int)) (rv : Rep X.K g A H v d) {ks : TK} {kvs : List (List Int × D)} (h : RepT X.K g A H ks kvs) : RepT X.K g A H (dtPut ks k b v) (putT kvs k d) := by
  have snoc : ∀ {l : TK} {m : List (List Int × D)}, RepT X.K g A H l m → RepT X.K g A H (l ++ [(k, b, v)]) (m ++ [(k, d)]) := by
    intro l m z
    induction z with
    | nil => exact .cons hb rv .nil
    | cons h1 h2 _ ih => exact .cons h1 h2 ih
  have repl : ∀ {l : TK} {m : List (List Int × D)}, RepT X.K g A H l m → RepT X.K g A H (l.map (fun x => if x.1 = k then (x.1, x.2.1, v) else x)) (m.map (fun x => if x.1 = k then (x.1, d) else x)) := by
    intro l m z
    induction z with
    | nil => exact .nil
    | @cons k' b' v' d' _ _ h1 h2 _ ih =>
      rw [List.map_cons, List.map_cons]
      by_cases e : k' = k
      · rw [if_pos e, if_pos e]; exact .cons h1 rv ih
      · rw [if_neg e, if_neg e]; exact .cons h1 h2 ih
  unfold dtPut putT
  rcases h.get k with ⟨e1, e2⟩ | ⟨_, _, e1, e2, _⟩
  · rw [e1, e2, if_neg (by simp), if_neg (by simp)]; exact snoc h
  · rw [e1, e2, if_pos (by simp), if_pos (by simp)]; exact repl h
/-- d[k], d a dict of tuples -/
def dIxT : F2 := fun x y m => match x with
  | .ref n => match m[n]?, keyT y with
    | some (.dit kvs), some k => match valT kvs k with
      | some d => .ok d m
      | none => .no
    | _, _ => .no
  | _ => .no
theorem ixT (hu : X.A.units + 1 < cLine) : IxA X g dIxT := ⟨_, ix_dit hu, fun A H mem x y dx dy Q W R rx ry p => by
  unfold dIxT at p
  cases rx with
  | @ref n a ha =>
    dsimp only at p
    split at p
    · rename_i kvs k hm hk
      obtain ⟨ks, e, r, _⟩ := R.cell _ _ _ ha hm
      obtain ⟨b, rfl, hb⟩ := keyT_rep ry hk
      split at p
      · rename_i d hd
        rcases r.get k with ⟨_, e2⟩ | ⟨v, d', e1, e2, rv⟩
        · rw [hd] at e2; cases e2
        · rw [hd] at e2; cases e2
          exact ⟨a, b, ks, k, v, rfl, rfl, e, r.keys, hb, e1, p _ A H .refl R rv⟩
      · exact p.elim
    · exact p.elim
  | _ => exact p.elim⟩
def dInT0 (neg : Bool) : F2 := fun x y m => match y with
  | .ref n => match m[n]?, keyT x with
    | some (.dit kvs), some k => .ok (.bl (xor neg (valT kvs k).isSome)) m
    | _, _ => .no
  | _ => .no
abbrev dInT : F2 := dInT0 false
abbrev dNotInT : F2 := dInT0 true
theorem opA_inT (hu : X.A.units + 1 < cLine) : OpA X g (compareOp .In) dInT := ⟨_, op_inDit hu, fun A H mem x y dx dy Q W R rx ry p => by
  unfold dInT dInT0 at p
  cases ry with
  | @ref n a ha =>
    dsimp only at p
    split at p
    · rename_i kvs k hm hk
      obtain ⟨ks, e, r, hs, _⟩ := R.cell _ _ _ ha hm
      obtain ⟨b, rfl, hb⟩ := keyT_rep rx hk
      refine ⟨a, b, ks, k, rfl, rfl, hs, e, r.keys, hb, ?_⟩
      have z : (dtGet ks k).isSome = (valT kvs k).isSome := by rcases r.get k with ⟨e1, e2⟩ | ⟨_, _, e1, e2, _⟩ <;> rw [e1, e2] <;> rfl
      rw [z]
      rw [Bool.false_xor] at p
      exact p _ A H .refl R (.bl _)
    · exact p.elim
  | _ => exact p.elim⟩
theorem opA_notInT (hu : X.A.units + 1 < cLine) : OpA X g (compareOp .NotIn) dNotInT := ⟨_, op_notInDit hu, fun A H mem x y dx dy Q W R rx ry p => by
  unfold dNotInT dInT0 at p
  cases ry with
  | @ref n a ha =>
    dsimp only at p
    split at p
    · rename_i kvs k hm hk
      obtain ⟨ks, e, r, hs, _⟩ := R.cell _ _ _ ha hm
      obtain ⟨b, rfl, hb⟩ := keyT_rep rx hk
      refine ⟨a, b, ks, k, rfl, rfl, hs, e, r.keys, hb, ?_⟩
      have z : (dtGet ks k).isSome = (valT kvs k).isSome := by rcases r.get k with ⟨e1, e2⟩ | ⟨_, _, e1, e2, _⟩ <;> rw [e1, e2] <;> rfl
      rw [z]
      rw [Bool.true_xor] at p
      exact p _ A H .refl R (.bl _)
    · exact p.elim
  | _ => exact p.elim⟩
def dSetT (x i v : D) (m : Mem) : R Unit := match x with
  | .ref n => match m[n]?, keyT i with
    | some (.dit kvs), some k => if kvs.length < sizeLine then .ok () (m.set n (.dit (putT kvs k v))) else .no
    | _, _ => .no
  | _ => .no
theorem putT_len (kvs : List (List Int × D)) (k : List Int) (v : D) : (putT kvs k v).length ≤ kvs.length + 1 := by
  unfold putT
  split
  · simp
  · simp
theorem stT (hu : X.A.units + 1 < cLine) : StA X g dSetT := ⟨_, set_dit hu, fun A H mem o i v d1 d2 d3 Q R ro ri rv p => by
  unfold dSetT at p
  cases ro with
  | @ref n a ha =>
    dsimp only at p
    split at p
    · rename_i kvs k hm hk
      obtain ⟨ks, e, r, hs, hz⟩ := R.cell _ _ _ ha hm
      obtain ⟨b, rfl, hb⟩ := keyT_rep ri hk
      split at p
      · rename_i hl
        refine ⟨a, b, ks, k, rfl, rfl, e, r.keys, hb, by rw [r.length]; exact hl, ?_⟩
        obtain ⟨s2, r2⟩ := R.write (o' := .ext (DtH a (dtPut ks k b v))) (c' := .dit (putT kvs k d3)) hm ha rfl rfl fun s => ⟨_, upd_same, RepT.put (s.tup _ _ hb) (rv.stab s) (r.stab s), hs, by have := putT_len kvs k d3; omega⟩
        exact p () _ _ s2 r2 True.intro
      · exact p.elim
    · exact p.elim
  | _ => exact p.elim⟩
def mkDit (kvs : List (List Int × D)) (m : Mem) : R D := .ok (.ref m.length) (m ++ [.dit kvs])
theorem se_dnewT {γ : Gam} {pos : Pos} : SE X g γ (.Dict [] [] pos) (eCall (fun _ => mkDit []) aNil) :=
  ⟨fun W tk => ⟨_, pe_dnewD, fun σ env A H mem Q hg he hr hp p hn hs => by
    obtain ⟨s2, r2, e2⟩ := hr.alloc (o := .ext (DtH p [])) (c := .dit []) hn fun s => ⟨[], upd_same, .nil, hs, Nat.zero_le _⟩
    exact hp _ _ _ s2 r2 (.ref e2)⟩⟩
end
end Ab
set_option Elab.async false
set_option linter.all false
set_option maxRecDepth 100000
namespace L2
open PySem PySem.Spec PyProof.Rows Ab
section
variable {X : Cx}
abbrev InBlk (X : Cx) (scope : Scope) (p : Cx → Prop) : Prop := ∀ (s : Shared) (H : Hp) (C : Addr) (cl : List (Str × Addr)) (fp : List Addr), p (X.blk s H scope (compEnvC scope cl C X.env) fp)
/-- {k: v for target in source if ..}, keys tuples of ints -/
def tDcT (K : PySem.W.Frag) (src : TI) (gt : TG) (cond : TT) (kk vv : TE) (mine : List Nat) : TE := fun σ H Q => src σ H fun J H1 => ∀ N, H1 N = none → (N == sysModules) = false →
  ∃ W : Nat → Nat → Hp → Prop, (∃ m, W 0 m (upd H1 N (.ext (DtH N [])))) ∧ ∀ i m H, W i m H → (J.stop i H ∧ Q (.ref N) H) ∨
    (J.go i H ∧ ∃ Go : Hp → Prop, (∀ H', Go H' → ∃ m', m' < m ∧ W (i + 1) m' H') ∧ ∀ x H', J.yld i H x H' →
      gt x (wipe σ mine) H' fun σ2 H2 => wipe σ2 mine = wipe σ mine ∧ cond σ2 H2 fun b H3 => if b = true then
        kk σ2 H3 fun y H4 => vv σ2 H4 fun z H5 => ∃ ks k c, y = .ref c ∧ H5 N = some (.ext (DtH N ks)) ∧ TKeys K H5 ks ∧ SqN K H5 c (k.map V.int) ∧ ks.length < sizeLine ∧ Go (upd H5 N (.ext (DtH N (dtPut ks k c z)))) else Go H3)
theorem dcT_core {pins : List (Addr × Obj)} {s : Shared} {σ : St} {H : Hp} {Q : VK} {kx vx tg src : Expr} {cs : List Expr} {scope : Scope} {own : List (Str × Nat)} {pos p2 : Pos} {ws : TI} {gt : TG} {cond : TT} {kk vv : TE} {use : Option (Value → Sem Unit)} {Fin : Value → Shared → Prop}
    (calm : X.calm = true) (hu : X.A.units < cLine) (nd : X.N.Nodup) (I : Inv X pins σ H s) (hsrc : PI X tg src ws) (blk : BlkOk X.N X.env.scope scope own) (hgt : InBlk X scope fun Y => PG Y tg gt) (hcond : InBlk X scope fun Y => PTs Y cs cond)
    (hkk : InBlk X scope fun Y => PE Y kx kk) (hvv : InBlk X scope fun Y => PE Y vx vv) (plain : ∀ x, foldedSetIterable src X.env x = pure x) (h : tDcT X.K ws gt cond kk vv (own.map (·.2)) σ H Q)
    (last : ∀ N C s' m H', Inv X pins σ H' s' → Q (.ref N) H' → s'.heap.Ns C m → FpOk X pins H' C → compPost (model X.prog X.w) X.A X.xe use Fin (.ref N) C (.ok .next) s') :
    wpAny (model X.prog X.w) X.A (comprehension (.DictComp kx vx [⟨tg, src, cs, 0⟩] scope pos) scope X.env p2 newDict false (eval src X.env) use) Fin X.xe s := by
  have outer : ∀ y ∈ scope.names, y.2 = .free → ∃ c, X.env.cells.lookup y.1 = some c := fun y hy e => (blk.free y hy e).elim (fun k => I.ok.has _ (.inl k)) fun k => I.ok.has _ (.inr k)
  refine wpAny_comprehension_free (use := use) rfl plain (closure_ok outer) blk.kind (fun y hy e => by rw [blk.uniq y hy, e]) (thn (hsrc.run pins s σ H _ I h) fun xv s1 hx => thn hx fun itv s2 ⟨it, fp, tn, J, H2, e, I2, T, st2, f2, q⟩ => ?_)
  subst e
  refine wpAny_newObj_type (newEnv_comp ?_)
  generalize hN : s2.heap.objs.size = N
  have fresh : H2 N = none := I2.hok.fresh (Nat.le_of_eq hN)
  obtain ⟨W, ⟨m0, w0⟩, turn⟩ := q N fresh (by rw [← hN]; exact beq_eq_false_iff_ne.mpr (Ne.symm (Nat.ne_of_lt I2.big)))
  generalize hs3 : ({ s2 with heap := s2.heap.push { cls := .type "dict", data := .dict #[] } } : Shared) = s3
  have h3 : s3.heap = s2.heap.push { cls := .type "dict", data := .dict #[] } := by subst hs3; rfl
  have I3 : Inv X pins σ (upd H2 N (.ext (DtH N []))) s3 := by
    subst hs3
    refine I2.laid (t' := s2.toks) (fun _ _ e => Heap.get?_push_of_some _ e) (Nat.le_of_eq hN) ?_
    subst hN
    exact dit_empty s2.heap _
  have low : ∀ b ∈ fp, b < s2.heap.objs.size := fun b hb => let ⟨_, e, _⟩ := T.obj _ _ st2 b hb; Heap.lt_size e
  have f3 : ∀ b ∈ fp, FpOk X pins (upd H2 N (.ext (DtH N []))) b ∧ b < s3.heap.objs.size := fun b hb => by
    have lt := low b hb
    refine ⟨⟨?_, (f2 b hb).2⟩, by rw [h3, Heap.size_push]; exact Nat.lt_succ_of_lt lt⟩
    rw [upd_ne (hN ▸ Nat.ne_of_lt lt)]
    exact (f2 b hb).1
  have st3 : tn 0 s3.heap := T.keep _ _ _ st2 fun _ _ _ e => by rw [h3]; exact Heap.get?_push_of_some _ e
  have I4 := block_start I3 blk nd f3
  have nfp : ∀ b ∈ fp, (upd H2 N (.ext (DtH N []))) b = none := fun b hb => (f3 b hb).1.1
  generalize hH3 : upd H2 N (.ext (DtH N [])) = H3 at I3 I4 w0 nfp f3
  have G := hgt s3 H3 s3.heap.objs.size (cellsFrom (s3.heap.objs.size + 1) scope.names (cloFrom X.env.cells scope.names [])) fp
  have Cd := hcond s3 H3 s3.heap.objs.size (cellsFrom (s3.heap.objs.size + 1) scope.names (cloFrom X.env.cells scope.names [])) fp
  have Kk := hkk s3 H3 s3.heap.objs.size (cellsFrom (s3.heap.objs.size + 1) scope.names (cloFrom X.env.cells scope.names [])) fp
  have Vv := hvv s3 H3 s3.heap.objs.size (cellsFrom (s3.heap.objs.size + 1) scope.names (cloFrom X.env.cells scope.names [])) fp
  show codeAny _ _ (.compStart (.DictComp kx vx [⟨tg, src, cs, 0⟩] scope pos) 0 (.ref it) (.ref N) (compEnvC scope (cellsFrom (s3.heap.objs.size + 1) scope.names (cloFrom X.env.cells scope.names [])) s3.heap.objs.size X.env))
    (compPost (model X.prog X.w) X.A X.xe use Fin (.ref N) s3.heap.objs.size) { s3 with heap := pushCells (s3.heap.push { cls := .type "dict", data := .dict #[] }) scope.names }
  generalize hce : compEnvC scope (cellsFrom (s3.heap.objs.size + 1) scope.names (cloFrom X.env.cells scope.names [])) s3.heap.objs.size X.env = ce at I4 G Cd Kk Vv ⊢
  have cL : ce.locals = s3.heap.objs.size := by subst hce; rfl
  generalize hs4 : ({ s3 with heap := pushCells (s3.heap.push { cls := .type "dict", data := .dict #[] }) scope.names } : Shared) = s4 at I4 ⊢
  have st4 : tn 0 s4.heap := T.keep _ _ _ st3 fun _ _ _ e => by subst hs4; exact pushCells_keeps _ _ _ _ (Heap.get?_push_of_some _ e)
  have quiet : ∀ {σ' : St} {H' : Hp} {s' : Shared}, Inv (X.blk s3 H3 scope ce fp) [] σ' H' s' → (∀ b ∈ fp, H' b = none) → ∀ b ∈ fp, FpOk (X.blk s3 H3 scope ce fp) [] H' b := fun {σ' H' s'} J' hn b hb =>
    ⟨hn b hb, (J'.ok.exf b hb).1, J'.ok.exfs b hb, .inl hb, fun x c e => (J'.ok.exf b hb).2 x c e, fun p hp => nomatch (show p ∈ ([] : List (Addr × Obj)) from by simpa using hp)⟩
  have rounds : codeAny (model X.prog X.w) X.A (.compLoop (.DictComp kx vx [⟨tg, src, cs, 0⟩] scope pos) 0 (.ref it) (.ref N) ce) (compPost (model X.prog X.w) X.A X.xe use Fin (.ref N) s3.heap.objs.size) s4 := by
    refine compLoop_anyD (fun n s' => ∃ i H', Inv (X.blk s3 H3 scope ce fp) [] (wipe σ (own.map (·.2))) H' s' ∧ tn i s'.heap ∧ (∀ b ∈ fp, H' b = none) ∧ W i n H') ?_ m0 ⟨0, H3, I4, st4, nfp, w0⟩
    rintro n s5 ⟨i, H5, I5, st5, n5, w5⟩
    rcases turn i n H5 w5 with ⟨stop, fine⟩ | ⟨go, Go, hGo, step⟩
    · refine thnF (T.done (X.blk s3 H3 scope ce fp) rfl rfl rfl calm i [] s5 _ H5 (fun _ _ => False) I5 (quiet I5 n5) st5 stop) fun r s6 ⟨hr, I6⟩ => ?_
      subst hr
      have home : Inv X pins σ H5 s6 := I3.call' (ch := fp) I6.os I6.base I6.hok I6.bare fun b hb => ⟨(f3 b hb).1.2.2.2.1, (f3 b hb).1.2.1, (f3 b hb).1.2.2.2.2.1, (f3 b hb).1.2.2.2.2.2⟩
      have nC : H5 s3.heap.objs.size = none := by rw [← cL]; exact I6.free
      obtain ⟨m, hn, _⟩ := I6.loc
      exact last N s3.heap.objs.size s6 m H5 home fine (by rw [← cL]; exact hn) (I3.fpOk (Nat.le_refl _) nC)
    · refine thnF (T.item (X.blk s3 H3 scope ce fp) rfl rfl rfl calm i [] s5 _ H5 (fun _ _ => False) I5 (quiet I5 n5) st5 go) fun r s6 ⟨u, hr, h6⟩ => ?_
      subst hr
      refine thnF h6 fun _ s7 ⟨x, H7, I7, r7, y7, st7, n7⟩ => thnF (G.run _ s7 _ H7 x u _ (I7.pinned (quiet I7 n7) (T.obj _ _ st7)) r7 (step x H7 y7)) fun _ s8 ⟨σ8, H8, I8, hw8, q8⟩ => thnF (Cd.run _ s8 σ8 H8 _ I8 q8) fun b s9 ⟨H9, I9, q9⟩ => ?_
      have on : ∀ {s' : Shared} {H' : Hp}, Inv (X.blk s3 H3 scope ce fp) ([] ++ pinsAt fp s7.heap) σ8 H' s' → Go H' → ∃ m, m < n ∧ ∃ i H', Inv (X.blk s3 H3 scope ce fp) [] (wipe σ (own.map (·.2))) H' s' ∧ tn i s'.heap ∧ (∀ b ∈ fp, H' b = none) ∧ W i m H' := fun {s' H'} J' go' => by
        obtain ⟨m', hm, w'⟩ := hGo H' go'
        have held : ∀ b ∈ fp, ∀ o, s7.heap.get? b = some o → s'.heap.get? b = some o ∧ H' b = none := fun b hb o e => let z := J'.pin (b, o) (List.mem_append_right _ (List.mem_append_right _ (mem_pinsAt hb e))); ⟨z.1, z.2.1⟩
        refine ⟨m', hm, i + 1, H', (J'.unpinned (pins := [])).weak (by rw [← hw8, wipe_length]) (fun j v e => ?_), T.keep _ _ _ st7 fun b hb o e => (held b hb o e).1, fun b hb => ?_, w'⟩
        · rw [← hw8] at e; exact (wipe_some e).1
        · obtain ⟨o, e, _⟩ := T.obj _ _ st7 b hb; exact (held b hb o e).2
      cases b with
      | false =>
        simp only [Bool.false_eq_true, if_false] at q9 ⊢
        exact on I9 q9
      | true =>
        simp only [if_true] at q9 ⊢
        refine thnF (Kk.run _ s9 σ8 H9 _ I9 q9) fun z s10 ⟨yk, H10, I10, r10, q10⟩ => thnF (Vv.run _ s10 σ8 H10 _ I10 q10) fun z2 s11 ⟨yv, H11, I11, r11, ks, k, c, ek, e11, hks, hc, hz, nx⟩ => ?_
        subst ek
        obtain rfl : z = Value.ref c := r10
        exact put_dit (X := X.blk s3 H3 scope ce fp) hu I11 e11 hks hc hz r11 fun s12 I12 => on I12 nx
  exact codeAny_compStart_dict rounds (T.self X.A 0 _ _ _ st4 rounds)
theorem pe_dcT {kx vx tg src : Expr} {cs : List Expr} {scope : Scope} {own : List (Str × Nat)} {pos : Pos} {ws : TI} {gt : TG} {cond : TT} {kk vv : TE} (calm : X.calm = true) (hu : X.A.units < cLine) (nd : X.N.Nodup) (hsrc : PI X tg src ws) (blk : BlkOk X.N X.env.scope scope own)
    (hgt : InBlk X scope fun Y => PG Y tg gt) (hcond : InBlk X scope fun Y => PTs Y cs cond) (hkk : InBlk X scope fun Y => PE Y kx kk) (hvv : InBlk X scope fun Y => PE Y vx vv) (plain : ∀ x, foldedSetIterable src X.env x = pure x := by intro _; rfl) :
    PE X (.DictComp kx vx [⟨tg, src, cs, 0⟩] scope pos) (tDcT X.K ws gt cond kk vv (own.map (·.2))) := ⟨fun pins s σ H Q I h => by
  rw [arm_eval_DictComp]
  refine dcT_core calm hu nd I hsrc blk hgt hcond hkk hvv plain h fun N C s' m H' J q hn ⟨f0, f1, f2, f3, f4, f5⟩ => ⟨m, hn, fun h2 sb => ?_⟩
  exact ⟨.ref N, H', J.turned (t' := s'.toks) (fun b o hb e => (sb.2 b hb).trans e) f0 f1 f3 f4 f5, rfl, q⟩⟩
end
end L2
set_option Elab.async false
set_option linter.all false
set_option maxRecDepth 100000
namespace Ab
open PySem L2
open Classical in
noncomputable def dcL (tg : AG) (tt : AT) (kk vv : AE) (gd : Gd) (env : Env') (p0 : Nat) : List D → Mem → R Unit
  | [], m => if gd.Ok m then .ok () m else .no
  | d :: r, m => if gd.Ok m then (match tg d env m with
    | .ok e2 m2 => match tt e2 m2 with
      | .ok b m3 => if b = true then (match kk e2 m3 with
        | .ok y m4 => match vv e2 m4 with
          | .ok z m5 => match m5[p0]?, keyT y with
            | some (.dit kvs), some k => if kvs.length < sizeLine then dcL tg tt kk vv gd env p0 r (m5.set p0 (.dit (putT kvs k z))) else .no
            | _, _ => .no
          | _ => .no
        | _ => .no) else dcL tg tt kk vv gd env p0 r m3
      | _ => .no
    | _ => .no) else .no
noncomputable def eDcT (it : AI) (tg : AG) (tt : AT) (kk vv : AE) (vs : List Nat) : AE := fun e m => (it e m).bind fun p m =>
  match dcL tg tt kk vv p.2 (wipeE e vs) m.length p.1 (m ++ [.dit []]) with
  | .ok _ m2 => .ok (.ref m.length) m2
  | _ => .no
open Classical in
/-- two sources, the second one asked at each turn of the first -/
noncomputable def lc2L (tg : AG) (tt : AT) (it1 : AI) (tg1 : AG) (tt1 : AT) (el : AE) (vs1 : List Nat) (gd : Gd) (env : Env') (p0 : Nat) : List D → Mem → R Unit
  | [], m => if gd.Ok m then .ok () m else .no
  | d :: r, m => if gd.Ok m then (match tg d env m with
    | .ok e2 m2 => match tt e2 m2 with
      | .ok b m3 => if b = true then (match it1 e2 m3 with
        | .ok q m4 => match lcL tg1 tt1 el q.2 (wipeE e2 vs1) p0 q.1 m4 with
          | .ok _ m5 => lc2L tg tt it1 tg1 tt1 el vs1 gd env p0 r m5
          | _ => .no
        | _ => .no) else lc2L tg tt it1 tg1 tt1 el vs1 gd env p0 r m3
      | _ => .no
    | _ => .no) else .no
noncomputable def eLc2 (it : AI) (tg : AG) (tt : AT) (it1 : AI) (tg1 : AG) (tt1 : AT) (el : AE) (vs vs1 : List Nat) : AE := fun e m => (it e m).bind fun p m =>
  match lc2L tg tt it1 tg1 tt1 el vs1 p.2 (wipeE e vs) m.length p.1 (m ++ [.lst []]) with
  | .ok _ m2 => .ok (.ref m.length) m2
  | _ => .no
section
variable {X : Cx} {g : Glb} {γ : Gam} {pos : Pos}
theorem dc_snd {ws : List Nat} {gd : Gd} {tg : AG} {tt : AT} {kk vv : AE} {items : List D} {J : It} {A1 : List Addr} {H1 : Hp} {m1 : Mem} {σ : L2.St} {env : Env'} {Q : VK} {Da : Addr} {m2 : Mem}
    (hg : γ.Ok A1) (he : EnvR X.K g A1 H1 σ env) (itr : ItR X.K g A1 H1 J (items, gd)) (hr : Rel X.K g A1 H1 m1) (hD : H1 Da = none) (hs : (Da == sysModules) = false)
    (hl : dcL tg tt kk vv gd (wipeE env ws) m1.length items (m1 ++ [.dit []]) = .ok () m2)
    (hQ : ∀ v A' H', Stab X.K A1 H1 A' H' → Rel X.K g A' H' m2 → Rep X.K g A' H' v (.ref m1.length) → Q v H') :
    ∃ W : Nat → Nat → Hp → Prop, (∃ m, W 0 m (upd H1 Da (.ext (DtH Da [])))) ∧ ∀ i m H, W i m H → (J.stop i H ∧ Q (.ref Da) H) ∨
      (J.go i H ∧ ∃ Go : Hp → Prop, (∀ H', Go H' → ∃ m', m' < m ∧ W (i + 1) m' H') ∧ ∀ x H', J.yld i H x H' → rdG X.K g γ ws tg (fun _ _ _ _ => False) x (wipe σ ws) H' fun σ2 H2 => wipe σ2 ws = wipe σ ws ∧ rdT X.K g γ tt (fun _ _ _ _ => False) σ2 H2 fun b H3 =>
        if b = true then rdE X.K g γ kk (fun _ _ _ _ => False) σ2 H3 fun y H4 => rdE X.K g γ vv (fun _ _ _ _ => False) σ2 H4 fun z H5 =>
          ∃ ks k c, y = .ref c ∧ H5 Da = some (.ext (DtH Da ks)) ∧ TKeys X.K H5 ks ∧ SqN X.K H5 c (k.map V.int) ∧ ks.length < sizeLine ∧ Go (upd H5 Da (.ext (DtH Da (dtPut ks k c z)))) else Go H3) := by
  obtain ⟨s0, r0, e0⟩ := hr.alloc (o := .ext (DtH Da [])) (c := .dit []) hD fun s => ⟨[], upd_same, .nil, hs, Nat.zero_le _⟩
  refine ⟨fun i n H => n = items.length - i ∧ i ≤ items.length ∧ ∃ A mem, Stab X.K A1 H1 A H ∧ Rel X.K g A H mem ∧ A[m1.length]? = some Da ∧ dcL tg tt kk vv gd (wipeE env ws) m1.length (items.drop i) mem = .ok () m2, ⟨items.length, by simp, Nat.zero_le _, _, _, s0, r0, e0, hl⟩, ?_⟩
  rintro i n H ⟨rfl, hi, A, mem, s, hr, hDA, hl⟩
  by_cases hlt : i < items.length
  · have hd : items.drop i = items[i] :: items.drop (i + 1) := List.drop_eq_getElem_cons hlt
    rw [hd] at hl
    unfold dcL at hl
    split at hl
    · rename_i ok
      obtain ⟨go, _⟩ := itr i A H mem s hr ok
      obtain ⟨go, yl⟩ := go items[i] (List.getElem?_eq_getElem hlt)
      refine .inr ⟨go, fun H' => ∃ A mem, Stab X.K A1 H1 A H' ∧ Rel X.K g A H' mem ∧ A[m1.length]? = some Da ∧ dcL tg tt kk vv gd (wipeE env ws) m1.length (items.drop (i + 1)) mem = .ok () m2, fun H' h => ⟨items.length - (i + 1), by omega, rfl, hlt, h⟩, fun x H2 hy => ?_⟩
      obtain ⟨A2, s2, r2, rx⟩ := yl x H2 hy
      have st2 := s.trans s2
      refine ⟨items[i], wipeE env ws, A2, mem, hg.pre st2.pre, wipeE_r (he.stab st2) ws, r2, rx, ?_⟩
      cases e1 : tg items[i] (wipeE env ws) mem with
      | er x m => rw [e1] at hl; cases hl
      | no => rw [e1] at hl; cases hl
      | ok e3 m3 =>
        rw [e1] at hl
        dsimp only at hl
        intro σ3 A3 H3 s3 r3 ⟨er3, fr3⟩
        have st3 := st2.trans s3
        refine ⟨wipe_frm fr3, e3, A3, m3, hg.pre st3.pre, er3, r3, ?_⟩
        cases e2 : tt e3 m3 with
        | er x m => rw [e2] at hl; cases hl
        | no => rw [e2] at hl; cases hl
        | ok b m4 =>
          rw [e2] at hl
          dsimp only at hl
          intro b' A4 H4 s4 r4 eb
          subst eb
          have st4 := st3.trans s4
          cases b' with
          | false =>
            rw [if_neg Bool.false_ne_true] at hl ⊢
            exact ⟨A4, m4, st4, r4, pre_get (s2.trans (s3.trans s4)).pre hDA, hl⟩
          | true =>
            rw [if_pos rfl] at hl
            rw [if_pos rfl]
            refine ⟨e3, A4, m4, hg.pre st4.pre, er3.stab s4, r4, ?_⟩
            cases e5 : kk e3 m4 with
            | er x m => rw [e5] at hl; cases hl
            | no => rw [e5] at hl; cases hl
            | ok y m5 =>
              rw [e5] at hl
              dsimp only at hl
              intro v A5 H5 s5 r5 rv
              have st5 := st4.trans s5
              refine ⟨e3, A5, m5, hg.pre st5.pre, (er3.stab s4).stab s5, r5, ?_⟩
              cases e6 : vv e3 m5 with
              | er x m => rw [e6] at hl; cases hl
              | no => rw [e6] at hl; cases hl
              | ok z m6 =>
                rw [e6] at hl
                dsimp only at hl
                intro vz A6 H6 s6 r6 rz
                have st6 := st5.trans s6
                have hD6 := pre_get (s2.trans (s3.trans (s4.trans (s5.trans s6)))).pre hDA
                split at hl
                · rename_i kvs k hm hk
                  split at hl
                  · rename_i hz
                    obtain ⟨ks, ev, q, hs', hz'⟩ := r6.cell _ _ _ hD6 hm
                    obtain ⟨b, rfl, hb⟩ := keyT_rep (rv.stab s6) hk
                    refine ⟨ks, k, b, rfl, ev, q.keys, hb, by rw [q.length]; exact hz, ?_⟩
                    obtain ⟨s7, r7⟩ := r6.write (o' := .ext (DtH Da (dtPut ks k b vz))) (c' := .dit (putT kvs k z)) hm hD6 rfl rfl fun s => ⟨_, upd_same, RepT.put (s.tup _ _ hb) (rz.stab s) (q.stab s), hs', by have := putT_len kvs k z; omega⟩
                    exact ⟨A6, _, st6.trans s7, r7, hD6, hl⟩
                  · cases hl
                · cases hl
    · cases hl
  · have e : i = items.length := by omega
    subst e
    rw [List.drop_length] at hl
    unfold dcL at hl
    split at hl
    · rename_i ok
      obtain ⟨_, st⟩ := itr items.length A H mem s hr ok
      cases hl
      exact .inl ⟨st (Nat.le_refl _), hQ _ A H s hr (.ref hDA)⟩
    · cases hl
theorem se_dcT {ws : List Nat} {kx vx tg iter : Expr} {ifs : List Expr} {scope : Scope} {own : List (Str × Nat)} {ai : AI} {t : AG} {tt : AT} {kk vv : AE} (hu : X.A.units < cLine) (hc : X.calm = true) (hN : X.N.Nodup) (hi : SI X g γ tg iter ai) (ok : BlkOk X.N X.env.scope scope own) (hw : own.map (·.2) = ws)
    (hg : InBlk X scope fun Y => SG Y g γ ws tg t) (ht : InBlk X scope fun Y => STs Y g γ ifs tt) (hk : InBlk X scope fun Y => SE Y g γ kx kk) (hv : InBlk X scope fun Y => SE Y g γ vx vv) (hs : ∀ x, foldedSetIterable iter X.env x = pure x := by intro _; rfl) :
    SE X g γ (.DictComp kx vx [⟨tg, iter, ifs, 0⟩] scope pos) (eDcT ai t tt kk vv ws) := ⟨fun W tk => by
  subst hw
  obtain ⟨wi, pi, qi⟩ := hi.out W tk
  refine ⟨_, pe_dcT (gt := rdG X.K g γ (own.map (·.2)) t (fun _ _ _ _ => False)) (cond := rdT X.K g γ tt (fun _ _ _ _ => False)) (kk := rdE X.K g γ kk (fun _ _ _ _ => False)) (vv := rdE X.K g γ vv (fun _ _ _ _ => False)) hc hu hN pi ok (fun s H C cl fp => (hg s H C cl fp).uni takes0) (fun s H C cl fp => (ht s H C cl fp).uni takes0) (fun s H C cl fp => (hk s H C cl fp).uni takes0) (fun s H C cl fp => (hv s H C cl fp).uni takes0) hs, fun σ env A H mem Q hgm her hr hp => ?_⟩
  refine qi σ env A H mem _ hgm her hr (hp.bnd fun J A1 H1 p m s1 r1 itr p1 => ?_)
  intro Da hD hsm
  obtain ⟨items, gd⟩ := p
  cases e : dcL t tt kk vv gd (wipeE env (own.map (·.2))) m.length items (m ++ [.dit []]) with
  | ok u m2 =>
    dsimp only at p1
    rw [e] at p1
    exact dc_snd (hgm.pre s1.pre) (her.stab s1) itr r1 hD hsm e p1
  | er x m2 => dsimp only at p1; rw [e] at p1; exact p1.elim
  | no => dsimp only at p1; rw [e] at p1; exact p1.elim⟩
/-- the loop of a comprehension whose list stands -/
theorem lc_gen {ws : List Nat} {gd : Gd} {tg : AG} {tt : AT} {el : AE} {items : List D} {J : It} {A1 : List Addr} {H1 : Hp} {m1 : Mem} {σ : L2.St} {env : Env'} {Fin : Hp → Prop} {Da : Addr} {m2 : Mem} {p0 : Nat}
    (hg : γ.Ok A1) (he : EnvR X.K g A1 H1 σ env) (itr : ItR X.K g A1 H1 J (items, gd)) (hr : Rel X.K g A1 H1 m1) (hD : A1[p0]? = some Da)
    (hl : lcL tg tt el gd (wipeE env ws) p0 items m1 = .ok () m2)
    (hQ : ∀ A' H', Stab X.K A1 H1 A' H' → Rel X.K g A' H' m2 → Fin H') :
    ∃ W : Nat → Nat → Hp → Prop, (∃ m, W 0 m H1) ∧ ∀ i m H, W i m H →
      (J.stop i H ∧ Fin H) ∨ (J.go i H ∧ ∃ Nx : Hp → Prop, (∀ H', Nx H' → ∃ m', m' < m ∧ W (i + 1) m' H') ∧ ∀ x H', J.yld i H x H' → rdG X.K g γ ws tg (fun _ _ _ _ => False) x (wipe σ ws) H' fun σ2 H2 => wipe σ2 ws = wipe σ ws ∧ rdT X.K g γ tt (fun _ _ _ _ => False) σ2 H2 fun b H3 =>
        if b = true then rdE X.K g γ el (fun _ _ _ _ => False) σ2 H3 fun y H4 => ∃ acc, H4 Da = some (.lst acc) ∧ acc.length < sizeLine ∧ Nx (upd H4 Da (.lst (acc ++ [y]))) else Nx H3) := by
  refine ⟨fun i n H => n = items.length - i ∧ i ≤ items.length ∧ ∃ A mem, Stab X.K A1 H1 A H ∧ Rel X.K g A H mem ∧ lcL tg tt el gd (wipeE env ws) p0 (items.drop i) mem = .ok () m2, ⟨items.length, by simp, Nat.zero_le _, _, _, .refl, hr, hl⟩, ?_⟩
  rintro i n H ⟨rfl, hi, A, mem, s, hr, hl⟩
  have hDA := pre_get s.pre hD
  by_cases hlt : i < items.length
  · have hd : items.drop i = items[i] :: items.drop (i + 1) := List.drop_eq_getElem_cons hlt
    rw [hd] at hl
    unfold lcL at hl
    split at hl
    · rename_i ok
      obtain ⟨go, _⟩ := itr i A H mem s hr ok
      obtain ⟨go, yl⟩ := go items[i] (List.getElem?_eq_getElem hlt)
      refine .inr ⟨go, fun H' => ∃ A mem, Stab X.K A1 H1 A H' ∧ Rel X.K g A H' mem ∧ lcL tg tt el gd (wipeE env ws) p0 (items.drop (i + 1)) mem = .ok () m2, fun H' h => ⟨items.length - (i + 1), by omega, rfl, hlt, h⟩, fun x H2 hy => ?_⟩
      obtain ⟨A2, s2, r2, rx⟩ := yl x H2 hy
      have st2 := s.trans s2
      refine ⟨items[i], wipeE env ws, A2, mem, hg.pre st2.pre, wipeE_r (he.stab st2) ws, r2, rx, ?_⟩
      cases e1 : tg items[i] (wipeE env ws) mem with
      | er x m => rw [e1] at hl; cases hl
      | no => rw [e1] at hl; cases hl
      | ok e3 m3 =>
        rw [e1] at hl
        dsimp only at hl
        intro σ3 A3 H3 s3 r3 ⟨er3, fr3⟩
        have st3 := st2.trans s3
        refine ⟨wipe_frm fr3, e3, A3, m3, hg.pre st3.pre, er3, r3, ?_⟩
        cases e2 : tt e3 m3 with
        | er x m => rw [e2] at hl; cases hl
        | no => rw [e2] at hl; cases hl
        | ok b m4 =>
          rw [e2] at hl
          dsimp only at hl
          intro b' A4 H4 s4 r4 eb
          subst eb
          have st4 := st3.trans s4
          cases b' with
          | false =>
            rw [if_neg Bool.false_ne_true] at hl ⊢
            exact ⟨A4, m4, st4, r4, hl⟩
          | true =>
            rw [if_pos rfl] at hl
            rw [if_pos rfl]
            refine ⟨e3, A4, m4, hg.pre st4.pre, er3.stab s4, r4, ?_⟩
            cases e5 : el e3 m4 with
            | er x m => rw [e5] at hl; cases hl
            | no => rw [e5] at hl; cases hl
            | ok y m5 =>
              rw [e5] at hl
              dsimp only at hl
              intro v A5 H5 s5 r5 rv
              have st5 := st4.trans s5
              have hD5 := pre_get (s2.trans (s3.trans (s4.trans s5))).pre hDA
              split at hl
              · rename_i acc hm
                split at hl
                · rename_i hz
                  obtain ⟨vs, ev, q⟩ := r5.cell _ _ _ hD5 hm
                  refine ⟨vs, ev, by rw [q.length]; exact hz, ?_⟩
                  obtain ⟨s6, r6⟩ := r5.write (o' := .lst (vs ++ [v])) (c' := .lst (acc ++ [y])) hm hD5 rfl rfl fun s => ⟨_, upd_same, (q.stab s).append (.cons (rv.stab s) .nil)⟩
                  exact ⟨A5, _, st5.trans s6, r6, hl⟩
                · cases hl
              · cases hl
    · cases hl
  · have e : i = items.length := by omega
    subst e
    rw [List.drop_length] at hl
    unfold lcL at hl
    split at hl
    · rename_i ok
      obtain ⟨_, st⟩ := itr items.length A H mem s hr ok
      cases hl
      exact .inl ⟨st (Nat.le_refl _), hQ A H s hr⟩
    · cases hl
def rdI (K : PySem.W.Frag) (g : Glb) (γ : Gam) (a : AI) (W : WX) : TI := fun σ H Q => ∃ env A mem, γ.Ok A ∧ EnvR K g A H σ env ∧ Rel K g A H mem ∧ Post K g (ItR K g) A H (a env mem) Q (fun c d H' => W c d σ H')
theorem SI.uni {tg e : Expr} {a : AI} (h : SI X g γ tg e a) {W : WX} (tk : Takes X W) : PI X tg e (rdI X.K g γ a W) := ⟨fun pins s σ H Q I hq => by
  obtain ⟨t, p, q⟩ := h.out W tk
  obtain ⟨env, A, mem, h1, h2, h3, h4⟩ := hq
  exact p.run pins s σ H Q I (q σ env A H mem Q h1 h2 h3 h4)⟩
/-- the loops of a comprehension with two sources, by their reading -/
theorem lc2_snd {vs ws1 : List Nat} {gd : Gd} {t t1 : AG} {tt tt1 : AT} {ai1 : AI} {el : AE} {items : List D} {J : It} {A1 : List Addr} {H1 : Hp} {m : Mem} {σ : L2.St} {env : Env'} {Q : VK} {Da : Addr} {m2 : Mem}
    (hgm1 : γ.Ok A1) (her1 : EnvR X.K g A1 H1 σ env) (itr : ItR X.K g A1 H1 J (items, gd)) (r1 : Rel X.K g A1 H1 m) (hD : H1 Da = none)
    (e : lc2L t tt ai1 t1 tt1 el ws1 gd (wipeE env vs) m.length items (m ++ [.lst []]) = .ok () m2)
    (p1 : ∀ v A' H', Stab X.K A1 H1 A' H' → Rel X.K g A' H' m2 → Rep X.K g A' H' v (.ref m.length) → Q v H') :
    ∃ W : Nat → Nat → Hp → Prop, (∃ m, W 0 m (upd H1 Da (.lst []))) ∧ ∀ i m H, W i m H → (J.stop i H ∧ Q (.ref Da) H) ∨
      (J.go i H ∧ ∃ Nx : Hp → Prop, (∀ H', Nx H' → ∃ m', m' < m ∧ W (i + 1) m' H') ∧ ∀ x H', J.yld i H x H' → rdG X.K g γ vs t (fun _ _ _ _ => False) x (wipe σ vs) H' fun σ2 H2 => wipe σ2 vs = wipe σ vs ∧ rdT X.K g γ tt (fun _ _ _ _ => False) σ2 H2 fun b H3 =>
        if b = true then rdI X.K g γ ai1 (fun _ _ _ _ => False) σ2 H3 fun J1 H4 => ∃ W1 : Nat → Nat → Hp → Prop, (∃ m, W1 0 m H4) ∧ ∀ j k H, W1 j k H → (J1.stop j H ∧ Nx H) ∨
          (J1.go j H ∧ ∃ Nx1 : Hp → Prop, (∀ H', Nx1 H' → ∃ k', k' < k ∧ W1 (j + 1) k' H') ∧ ∀ x H', J1.yld j H x H' → rdG X.K g γ ws1 t1 (fun _ _ _ _ => False) x (wipe σ2 ws1) H' fun σ3 H5 => wipe σ3 ws1 = wipe σ2 ws1 ∧ rdT X.K g γ tt1 (fun _ _ _ _ => False) σ3 H5 fun b H6 =>
            if b = true then rdE X.K g γ el (fun _ _ _ _ => False) σ3 H6 fun y H7 => ∃ acc, H7 Da = some (.lst acc) ∧ acc.length < sizeLine ∧ Nx1 (upd H7 Da (.lst (acc ++ [y]))) else Nx1 H6)
        else Nx H3) := by
  obtain ⟨s0, r0, e0⟩ := r1.alloc (o := .lst []) (c := .lst []) hD fun s => ⟨[], upd_same, .nil⟩
  refine ⟨fun i n H => n = items.length - i ∧ i ≤ items.length ∧ ∃ A mem, Stab X.K A1 H1 A H ∧ Rel X.K g A H mem ∧ A[m.length]? = some Da ∧ lc2L t tt ai1 t1 tt1 el ws1 gd (wipeE env vs) m.length (items.drop i) mem = .ok () m2, ⟨items.length, by simp, Nat.zero_le _, _, _, s0, r0, e0, e⟩, ?_⟩
  rintro i n H ⟨rfl, hi, A, mem, s, hr, hDA, hl⟩
  by_cases hlt : i < items.length
  · have hd : items.drop i = items[i] :: items.drop (i + 1) := List.drop_eq_getElem_cons hlt
    rw [hd] at hl
    unfold lc2L at hl
    split at hl
    · rename_i ok
      obtain ⟨go, _⟩ := itr i A H mem s hr ok
      obtain ⟨go, yl⟩ := go items[i] (List.getElem?_eq_getElem hlt)
      refine .inr ⟨go, fun H' => ∃ A mem, Stab X.K A1 H1 A H' ∧ Rel X.K g A H' mem ∧ A[m.length]? = some Da ∧ lc2L t tt ai1 t1 tt1 el ws1 gd (wipeE env vs) m.length (items.drop (i + 1)) mem = .ok () m2, fun H' h => ⟨items.length - (i + 1), by omega, rfl, hlt, h⟩, fun x H2 hy => ?_⟩
      obtain ⟨A2, s2, r2, rx⟩ := yl x H2 hy
      have st2 := s.trans s2
      refine ⟨items[i], wipeE env vs, A2, mem, hgm1.pre st2.pre, wipeE_r (her1.stab st2) vs, r2, rx, ?_⟩
      cases e1 : t items[i] (wipeE env vs) mem with
      | er x m => rw [e1] at hl; cases hl
      | no => rw [e1] at hl; cases hl
      | ok e3 m3 =>
        rw [e1] at hl
        dsimp only at hl
        intro σ3 A3 H3 s3 r3 ⟨er3, fr3⟩
        have st3 := st2.trans s3
        refine ⟨wipe_frm fr3, e3, A3, m3, hgm1.pre st3.pre, er3, r3, ?_⟩
        cases e2 : tt e3 m3 with
        | er x m => rw [e2] at hl; cases hl
        | no => rw [e2] at hl; cases hl
        | ok b m4 =>
          rw [e2] at hl
          dsimp only at hl
          intro b' A4 H4 s4 r4 eb
          subst eb
          have st4 := st3.trans s4
          cases b' with
          | false =>
            rw [if_neg Bool.false_ne_true] at hl ⊢
            exact ⟨A4, m4, st4, r4, pre_get (s2.trans (s3.trans s4)).pre hDA, hl⟩
          | true =>
            rw [if_pos rfl] at hl
            rw [if_pos rfl]
            refine ⟨e3, A4, m4, hgm1.pre st4.pre, er3.stab s4, r4, ?_⟩
            cases e5 : ai1 e3 m4 with
            | er x m => rw [e5] at hl; cases hl
            | no => rw [e5] at hl; cases hl
            | ok q m5 =>
              rw [e5] at hl
              dsimp only at hl
              obtain ⟨items1, gd1⟩ := q
              dsimp only at hl
              intro J1 A5 H5 s5 r5 itr1
              have st5 := st4.trans s5
              have hD5 := pre_get (s2.trans (s3.trans (s4.trans s5))).pre hDA
              cases e6 : lcL t1 tt1 el gd1 (wipeE e3 ws1) m.length items1 m5 with
              | er x m => rw [e6] at hl; cases hl
              | no => rw [e6] at hl; cases hl
              | ok u6 m6 =>
                rw [e6] at hl
                refine lc_gen (hgm1.pre st5.pre) ((er3.stab s4).stab s5) itr1 r5 hD5 e6 fun A6 H6 s6 r6 => ?_
                exact ⟨A6, m6, st5.trans s6, r6, pre_get s6.pre hD5, hl⟩
    · cases hl
  · have e : i = items.length := by omega
    subst e
    rw [List.drop_length] at hl
    unfold lc2L at hl
    split at hl
    · rename_i ok
      obtain ⟨_, st⟩ := itr items.length A H mem s hr ok
      cases hl
      exact .inl ⟨st (Nat.le_refl _), p1 _ A H s hr (.ref hDA)⟩
    · cases hl
theorem se_lc2 {ws ws1 : List Nat} {elt tg iter tg1 iter1 : Expr} {ifs ifs1 : List Expr} {scope : Scope} {own : List (Str × Nat)} {ai ai1 : AI} {t t1 : AG} {tt tt1 : AT} {el : AE} (hc : X.calm = true) (hN : X.N.Nodup) (hi : SI X g γ tg iter ai) (ok : BlkOk X.N X.env.scope scope own) (hw : own.map (·.2) = ws) (hv : ∀ i ∈ ws1, i ∈ ws)
    (hg : InBlk X scope fun Y => SG Y g γ ws tg t) (ht : InBlk X scope fun Y => STs Y g γ ifs tt) (hi1 : InBlk X scope fun Y => SI Y g γ tg1 iter1 ai1) (hg1 : InBlk X scope fun Y => SG Y g γ ws1 tg1 t1) (ht1 : InBlk X scope fun Y => STs Y g γ ifs1 tt1) (he : InBlk X scope fun Y => SE Y g γ elt el)
    (hs : ∀ x, foldedSetIterable iter X.env x = pure x := by intro _; rfl) (hs1 : ∀ env x, foldedSetIterable iter1 env x = pure x := by intro _ _; rfl) :
    SE X g γ (.ListComp elt [⟨tg, iter, ifs, 0⟩, ⟨tg1, iter1, ifs1, 0⟩] scope pos) (eLc2 ai t tt ai1 t1 tt1 el ws ws1) := ⟨fun W tk => by
  subst hw
  obtain ⟨wi, pi, qi⟩ := hi.out W tk
  refine ⟨_, pe_lc2 (g := rdG X.K g γ (own.map (·.2)) t (fun _ _ _ _ => False)) (tt := rdT X.K g γ tt (fun _ _ _ _ => False)) (wi1 := rdI X.K g γ ai1 (fun _ _ _ _ => False)) (g1 := rdG X.K g γ ws1 t1 (fun _ _ _ _ => False)) (tt1 := rdT X.K g γ tt1 (fun _ _ _ _ => False)) (te := rdE X.K g γ el (fun _ _ _ _ => False)) hc hN pi ok hv
    (fun s H C cl fp => (hg s H C cl fp).uni takes0) (fun s H C cl fp => (ht s H C cl fp).uni takes0) (fun s H C cl fp => (hi1 s H C cl fp).uni takes0) (fun s H C cl fp => (hg1 s H C cl fp).uni takes0) (fun s H C cl fp => (ht1 s H C cl fp).uni takes0) (fun s H C cl fp => (he s H C cl fp).uni takes0) hs hs1, fun σ env A H mem Q hgm her hr hp => ?_⟩
  refine qi σ env A H mem _ hgm her hr (hp.bnd fun J A1 H1 p m s1 r1 itr p1 => ?_)
  intro Da hD
  obtain ⟨items, gd⟩ := p
  dsimp only at p1
  cases e : lc2L t tt ai1 t1 tt1 el ws1 gd (wipeE env (own.map (·.2))) m.length items (m ++ [.lst []]) with
  | er x m2 => rw [e] at p1; exact p1.elim
  | no => rw [e] at p1; exact p1.elim
  | ok u m2 =>
    rw [e] at p1
    replace p1 : ∀ v A' H', Stab X.K A1 H1 A' H' → Rel X.K g A' H' m2 → Rep X.K g A' H' v (.ref m.length) → Q v H' := p1
    exact lc2_snd (hgm.pre s1.pre) (her.stab s1) itr r1 hD e p1⟩
theorem ss_lc2 {ws ws1 : List Nat} {i : Nat} {y : Str} {py spos : Pos} {elt tg iter tg1 iter1 : Expr} {ifs ifs1 : List Expr} {scope : Scope} {own : List (Str × Nat)} {ai ai1 : AI} {t t1 : AG} {tt tt1 : AT} {el : AE} (hc : X.calm = true) (hN : X.N.Nodup) (hi : SI X g γ tg iter ai) (ok : BlkOk X.N X.env.scope scope own) (hw : own.map (·.2) = ws) (hv : ∀ i ∈ ws1, i ∈ ws)
    (hg : InBlk X scope fun Y => SG Y g γ ws tg t) (ht : InBlk X scope fun Y => STs Y g γ ifs tt) (hi1 : InBlk X scope fun Y => SI Y g γ tg1 iter1 ai1) (hg1 : InBlk X scope fun Y => SG Y g γ ws1 tg1 t1) (ht1 : InBlk X scope fun Y => STs Y g γ ifs1 tt1) (he : InBlk X scope fun Y => SE Y g γ elt el)
    (hy : X.N[i]? = some y := by rfl) (hyl : X.env.scope.names.lookup y = some .local := by rfl)
    (hsw : swapsWith (.ListComp elt [⟨tg, iter, ifs, 0⟩, ⟨tg1, iter1, ifs1, 0⟩] scope pos) (some (.Name y py)) spos.line X.env = pure true := by exact sw_true rfl rfl rfl (by decide +kernel))
    (hs : ∀ x, foldedSetIterable iter X.env x = pure x := by intro _; rfl) (hs1 : ∀ env x, foldedSetIterable iter1 env x = pure x := by intro _ _; rfl) :
    SS X g γ (.Assign [.Name y py] (.ListComp elt [⟨tg, iter, ifs, 0⟩, ⟨tg1, iter1, ifs1, 0⟩] scope pos) spos) (sAsg (eLc2 ai t tt ai1 t1 tt1 el ws ws1) (gN i)) := ⟨fun W tk => by
  subst hw
  obtain ⟨wi, pi, qi⟩ := hi.out W tk
  refine ⟨_, ps_setLc2 (g := rdG X.K g γ (own.map (·.2)) t (fun _ _ _ _ => False)) (tt := rdT X.K g γ tt (fun _ _ _ _ => False)) (wi1 := rdI X.K g γ ai1 (fun _ _ _ _ => False)) (g1 := rdG X.K g γ ws1 t1 (fun _ _ _ _ => False)) (tt1 := rdT X.K g γ tt1 (fun _ _ _ _ => False)) (te := rdE X.K g γ el (fun _ _ _ _ => False)) hc hN hy hyl hsw pi ok hv
    (fun s H C cl fp => (hg s H C cl fp).uni takes0) (fun s H C cl fp => (ht s H C cl fp).uni takes0) (fun s H C cl fp => (hi1 s H C cl fp).uni takes0) (fun s H C cl fp => (hg1 s H C cl fp).uni takes0) (fun s H C cl fp => (ht1 s H C cl fp).uni takes0) (fun s H C cl fp => (he s H C cl fp).uni takes0) hs hs1, fun σ env A H mem E hgm her hr hp => ?_⟩
  have hp2 : PostS X.K g A H ((ai env mem).o env fun p m => (match lc2L t tt ai1 t1 tt1 el ws1 p.2 (wipeE env (own.map (·.2))) m.length p.1 (m ++ [.lst []]) with
    | .ok _ m2 => .nx (env.set i (some (.ref m.length))) m2
    | _ => .no)) E W := by
    have e : sAsg (eLc2 ai t tt ai1 t1 tt1 el (own.map (·.2)) ws1) (gN i) env mem = ((ai env mem).o env fun p m => (match lc2L t tt ai1 t1 tt1 el ws1 p.2 (wipeE env (own.map (·.2))) m.length p.1 (m ++ [.lst []]) with
      | .ok _ m2 => .nx (env.set i (some (.ref m.length))) m2
      | _ => .no)) := by
      unfold sAsg eLc2 gN
      cases ai env mem with
      | ok p m =>
        dsimp only [R.o, R.bind]
        cases lc2L t tt ai1 t1 tt1 el ws1 p.2 (wipeE env (own.map (·.2))) m.length p.1 (m ++ [.lst []]) <;> rfl
      | er x m => rfl
      | no => rfl
    rw [← e]; exact hp
  refine qi σ env A H mem _ hgm her hr (PostS.of her hp2 fun J A1 H1 p m s1 r1 itr p1 => ?_)
  intro Da hD
  obtain ⟨items, gd⟩ := p
  dsimp only at p1
  cases e : lc2L t tt ai1 t1 tt1 el ws1 gd (wipeE env (own.map (·.2))) m.length items (m ++ [.lst []]) with
  | ok u m2 =>
    rw [e] at p1
    refine lc2_snd (Q := fun v H' => gName i v σ H' E.nx) (hgm.pre s1.pre) (her.stab s1) itr r1 hD e fun v A' H' s' r' rv => ?_
    exact p1 _ A' H' s' r' ((her.stab (s1.trans s')).set i rv)
  | er x m2 => rw [e] at p1; exact p1.elim
  | no => rw [e] at p1; exact p1.elim⟩
end
end Ab
set_option Elab.async false
set_option linter.all false
set_option maxRecDepth 100000
namespace Ab
open PySem PySem.Spec PyProof.Rows L2
/-! ### powers, rows times a number -/
instance (i j : Int) : Decidable (CPowW i j) := by unfold CPowW; infer_instance
def dPowW : F2 := fun x y m => match x, y with
  | .int i, .int j => if CPowW i j then .ok (.int (i ^ j.toNat)) m else .no
  | _, _ => .no
def dMulT : F2 := fun x y m => match x, y with
  | .tup a, .int k => if a ≠ [] ∧ 2 ≤ k ∧ k ≤ 1000 ∧ a.length ≤ 1000 then .ok (.tup (List.replicate k.toNat a).flatten) m else .no
  | _, _ => .no
section
variable {X : Cx} {g : Glb}
theorem opA_powW : OpA X g (binaryOp .Pow) dPowW := ⟨_, op_powW, fun A H mem x y dx dy Q W R rx ry p => by
  unfold dPowW at p
  cases rx <;> cases ry <;> try exact p.elim
  dsimp only at p
  split at p
  · exact ⟨_, _, rfl, rfl, by assumption, p _ A H .refl R (.int _)⟩
  · exact p.elim⟩
theorem RepL.reps {A : List Addr} {H : Hp} {vs : List V} {xs : List D} (q : RepL X.K g A H vs xs) : ∀ n, RepL X.K g A H (List.replicate n vs).flatten (List.replicate n xs).flatten
  | 0 => .nil
  | n + 1 => by rw [List.replicate_succ, List.replicate_succ, List.flatten_cons, List.flatten_cons]; exact q.append (RepL.reps q n)
theorem opA_mulT : OpA X g (binaryOp .Mult) dMulT := ⟨_, op_repF, fun A H mem x y dx dy Q W R rx ry p => by
  unfold dMulT at p
  split at p
  · rename_i a k
    cases rx with
    | @tup b vs _ hs l =>
      cases ry
      split at p
      · rename_i hc
        refine ⟨b, k, vs, rfl, rfl, hs.t, fun z => hc.1 ?_, hc.2.1, hc.2.2.1, by rw [l.length]; exact hc.2.2.2, fun q o ho hq => ?_⟩
        · subst z; cases l; rfl
        · obtain ⟨s2, r2⟩ := R.new (o := .frz o (.tup (List.replicate k.toNat vs).flatten)) hq
          exact p _ A _ s2 r2 (.tup (.inl ⟨o, upd_same, ho⟩) ((l.reps k.toNat).stab s2))
      · exact p.elim
  · exact p.elim⟩
end
/-! ### x += e -/
def sAug (i : Nat) (f : Int → Int → Int) (a : AE) : AS := fun env m => match env[i]? with
  | some (some (.int x)) => (a env m).o env fun d m => match d with
    | .int y => .nx (env.set i (some (.int (f x y)))) m
    | _ => .no
  | _ => .no
section
variable {X : Cx} {g : Glb} {γ : Gam} {pos : Pos}
theorem ss_aug (i : Nat) {x : Str} {op : Operator} {f : Int → Int → Int} {e : Expr} {a : AE} {tpos : Pos} (hN : X.N.Nodup) (ip : PIp X op (ipI f)) (he : SE X g γ e a) (hi : X.N[i]? = some x := by rfl) (hx : Loc X.env.scope x := by first | exact Or.inl rfl | exact Or.inr rfl) (hf : X.fn x = true ∨ X.env.scope.names.lookup x = some .local := by first | exact .inl rfl | exact .inr rfl | assumption) : SS X g γ (.AugAssign (.Name x tpos) op e pos) (sAug i f a) := ⟨fun W tk => by
  obtain ⟨t, p, q⟩ := he.out W tk
  refine ⟨_, ps_aug hN hi hx p ip hf, fun σ env A H mem E hg hv hr hp => ?_⟩
  unfold sAug at hp
  split at hp
  · rename_i n hn
    obtain ⟨v, e1, rv⟩ := hv.2 i _ hn
    cases rv
    refine ⟨.int n, e1, ?_⟩
    refine q σ env A H mem _ hg hv hr (PostS.of (rl := Rep X.K g) hv hp fun y A1 H1 dy m s1 r1 ry p1 => ?_)
    split at p1
    · rename_i k
      cases ry
      exact ⟨n, k, rfl, rfl, p1 _ A1 H1 .refl r1 ((hv.stab s1).set i (.int _))⟩
    · exact p1.elim
  · exact hp.elim⟩
/-! ### list(range(..)) -/
instance (i j : Int) : Decidable (RgOk i j) := by unfold RgOk; infer_instance
def eLstRg1 (a : AE) : AE := fun env m => (a env m).bind fun d m => match d with
  | .int j => if RgOk 0 j then .ok (.ref m.length) (m ++ [.lst ((List.range j.toNat).map fun (k : Nat) => .int (k : Int))]) else .no
  | _ => .no
theorem se_lstRg1 {e : Expr} {a : AE} {p p2 p3 : Pos} (hc : X.calm = true) (hl : X.mg "list" = none) (hr : X.mg "range" = none) (he : SE X g γ e a) (gl : Gl X "list" := by rfl) (gr : Gl X "range" := by rfl) (na : starEach [e] X.env = (false, eval e X.env) :: starEach [] X.env := by rfl)
    (nb : starEach [(.Call (.Name "range" p2) [e] [] p3 : Expr)] X.env = (false, eval (.Call (.Name "range" p2) [e] [] p3) X.env) :: starEach [] X.env := by rfl) :
    SE X g γ (.Call (.Name "list" p) [.Call (.Name "range" p2) [e] [] p3] [] pos) (eLstRg1 a) := ⟨fun W tk => by
  obtain ⟨t, pe, q⟩ := he.out W tk
  refine ⟨_, pe_listRg hc gl hl (prg_1 gr hr pe na) nb, fun σ env A H mem Q hg hv hr hp => ?_⟩
  refine q σ env A H mem _ hg hv hr (hp.bnd fun v A1 H1 d m s1 r1 rv p1 => ?_)
  split at p1
  · rename_i j
    cases rv
    split at p1
    · rename_i ok
      refine ⟨j, rfl, ok, fun q hq => ?_⟩
      have key : ∀ l : List Nat, RepL X.K g A1 H1 (l.map fun (k : Nat) => V.int (0 + (k : Int))) (l.map fun (k : Nat) => D.int (k : Int)) := by
        intro l
        induction l with
        | nil => exact .nil
        | cons x r ih => rw [List.map_cons, List.map_cons, Int.zero_add]; exact .cons (.int _) ih
      have e1 : (j - 0).toNat = j.toNat := by rw [Int.sub_zero]
      unfold rgV
      rw [e1]
      obtain ⟨s2, r2, e2⟩ := r1.alloc (o := .lst ((List.range j.toNat).map fun (k : Nat) => V.int (0 + (k : Int)))) (c := .lst ((List.range j.toNat).map fun (k : Nat) => D.int (k : Int))) hq fun s => ⟨_, upd_same, (key _).stab s⟩
      exact p1 _ _ _ s2 r2 (.ref e2)
    · exact p1.elim
  · exact p1.elim⟩
/-! ### truth -/
def truD (d : D) (m : Mem) : Option Bool := match d with
  | .non => some false
  | .bl b => some b
  | .int i => some (i != 0)
  | .tup ds => some !ds.isEmpty
  | .ref n => match m[n]? with
    | some (.lst ds) => some !ds.isEmpty
    | some (.rol ds) => some !ds.isEmpty
    | some (.dic kvs) => some !kvs.isEmpty
    | _ => none
  | _ => none
def tTru (a : AE) : AT := fun env m => (a env m).bind fun d m => match truD d m with
  | some b => .ok b m
  | none => .no
theorem tru_v {A : List Addr} {H : Hp} {m : Mem} {v : V} {d : D} {b : Bool} (R : Rel X.K g A H m) (rv : Rep X.K g A H v d) (h : truD d m = some b) : TruV X.K v H b := by
  have em : ∀ {vs : List V} {ds : List D}, RepL X.K g A H vs ds → (!vs.isEmpty) = !ds.isEmpty := by
    intro vs ds q
    cases q <;> rfl
  unfold truD at h
  cases rv with
  | non => cases h; rfl
  | bl k => cases h; rfl
  | int i => cases h; rfl
  | tup hs l => cases h; exact .inr (.inl ⟨_, hs.t, (em l).symm⟩)
  | @ref n a ha =>
    dsimp only at h
    split at h
    · rename_i ds hm
      cases h
      obtain ⟨vs, e, q⟩ := R.cell _ _ _ ha hm
      exact .inl ⟨vs, .inl (.inl e), (em q).symm⟩
    · rename_i ds hm
      cases h
      obtain ⟨vs, e, q⟩ := R.cell _ _ _ ha hm
      exact .inl ⟨vs, e.l, (em q).symm⟩
    · rename_i ds hm
      cases h
      obtain ⟨vs, e, q⟩ := R.cell _ _ _ ha hm
      exact .inr (.inr ⟨vs, e, by cases q <;> rfl⟩)
    · cases h
  | _ => cases h
theorem st_tru {e : Expr} {a : AE} (h : SE X g γ e a) (he : ∀ whole, isTrue e X.env whole = (do let v ← whole; standAt e.pos; holding [v] (truthy v)) := by intro _; rfl) : ST X g γ e (tTru a) := ⟨fun W tk => by
  obtain ⟨t, p, q⟩ := h.out W tk
  refine ⟨_, pt_truth p he, fun σ env A H mem Q hg hv hr hp => ?_⟩
  refine q σ env A H mem _ hg hv hr (hp.bnd fun v A1 H1 d m s1 r1 rv p1 => ?_)
  split at p1
  · rename_i b hb
    exact ⟨b, tru_v r1 rv hb, p1 b A1 H1 .refl r1 rfl⟩
  · exact p1.elim⟩
end
/-! ### methods of own classes -/
structure MetA (P : Program) (w : World) (K : PySem.W.Frag) (mg : Str → Option Value) (base : Heap) (g : Glb) (k : Nat) (c m : Str) (n : Nat) (af : AF) : Prop where
  ex : ∃ f fd ps, Cls K (g.ca c) ∧ Meth K (g.ca c) m f ∧ Binds K fd ps [] ∧ FnOk P w K mg base (L2.CX P w) k f fd ps (spOf K g n af)
theorem MetA.mono {P : Program} {w : World} {K : PySem.W.Frag} {mg : Str → Option Value} {base : Heap} {g : Glb} {j k : Nat} {c m : Str} {n : Nat} {af : AF} (F : MetA P w K mg base g j c m n af) (h : j ≤ k) : MetA P w K mg base g k c m n af := by
  obtain ⟨f, fd, ps, h1, h2, h3, h5⟩ := F.ex
  exact ⟨f, fd, ps, h1, h2, h3, h5.mono h⟩
def eMeth (c mn : Str) (F : AF) (o : AE) (aa : AA) : AE := fun env m => (o env m).bind fun d m => match d with
  | .ref n => match m[n]? with
    | some (.ins c' fs) => if c' = c ∧ lookF mn fs = none then (aa env m).bind fun ds m => F (.ref n :: ds) m else .no
    | _ => .no
  | _ => .no
section
variable {X : Cx} {g : Glb} {γ : Gam} {pos apos : Pos} {e o : Expr} {es : List Expr} {ia : AE} {aa : AA}
theorem RepP.lookN {A : List Addr} {H : Hp} {f : Str} : ∀ {fv : List (Str × V)} {fs : List (Str × D)}, RepP X.K g A H fv fs → lookF f fs = none → fv.lookup f = none
  | _, _, .nil, _ => rfl
  | _, _, .cons (k := k) _ l, h => by
    unfold lookF at h
    by_cases z : f = k
    · rw [if_pos z] at h; cases h
    · rw [if_neg z] at h
      have eb : (f == k) = false := beq_eq_false_iff_ne.mpr z
      simp only [List.lookup, eb]
      exact RepP.lookN l h
theorem se_meth {k n : Nat} {cn mn : Str} {af : AF} {pl : Sem Bool} (F : MetA X.prog X.w X.K X.mg X.base g k cn mn (n + 1) af) (hr : Room k X.A) (ho : SE X g γ o ia) (ha : SA X g γ (e :: es) aa) (hla : aLen aa n)
    (hst : starEach (e :: es) X.env = (false, eval e X.env) :: starEach es X.env := by rfl) (hpl : (backTo pos (starEach es X.env)).any (·.1) = false := by rfl)
    (ht : eval (.Call (.Attribute o mn apos) (e :: es) [] pos) X.env = (do
      let ov ← eval o X.env
      standAt apos.atName
      let (f, first) ← holding [ov] (getMethod ov mn pl)
      callWith pos f first (backTo pos (starEach (e :: es) X.env)) (backToKw pos (keywordEach [] X.env))) := by rfl) :
    SE X g γ (.Call (.Attribute o mn apos) (e :: es) [] pos) (eMeth cn mn af ia aa) := ⟨fun W tk => by
  obtain ⟨to, po, qo⟩ := ho.out W tk
  obtain ⟨t, pa, q⟩ := ha.out W tk
  obtain ⟨f, fd, ps, hC, hM, hb, F⟩ := F.ex
  refine ⟨fun σ H Q => to σ H fun x H1 => ∃ a dx fs, x = .ref a ∧ H1 a = some (.ins (g.ca cn) dx fs) ∧ fs.lookup mn = none ∧ t σ H1 fun vs H2 => spOf X.K g (n + 1) af (x :: vs) H2 Q (WE W σ), ⟨fun pins s σ H Q I h => ?_⟩, fun σ env A H mem Q hg hv hr hp => ?_⟩
  · refine PySem.W.methodCall_KW (pl := pl) (thn (po.run pins s σ H _ I h) fun u s1 ⟨x, H1, I1, rx, a, dx, fs, ex, ea, l, q1⟩ => ?_) ht
    subst ex
    obtain rfl : u = Value.ref a := rx
    refine getmeth_ok I1 ea hC hM l ?_
    refine PySem.W.callWith_K (first := [.ref a]) (h₀ := X.base) I.ok.mod.kin hM.kp (thn (pa.run pos pins s1 σ H1 _ I1 q1) fun us s2 ⟨vs, H2, I2, r, q2⟩ => ⟨I2.kIn, ?_⟩) hst hpl
    exact run_fnS (us := .ref a :: us) (vs := .ref a :: vs) F hr hb (passAt tk σ) I2 (.cons rfl r) q2
  · unfold eMeth at hp
    refine qo σ env A H mem _ hg hv hr (Post.bnd hp fun v A1 H1 d m s1 r1 rv p1 => ?_)
    cases rv with
    | @ref nn a hnn =>
      dsimp only at p1
      split at p1
      · rename_i c' fs hm
        split at p1
        · rename_i hc
          obtain ⟨rfl, hlk⟩ := hc
          obtain ⟨dx, fv, e1, l⟩ := r1.cell _ _ _ hnn hm
          refine ⟨a, dx, fv, rfl, e1, l.lookN hlk, ?_⟩
          have key : ∀ ds m', aa env m = .ok ds m' → ds.length = n := fun ds m' z => hla env m ds m' z
          cases e3 : aa env m with
          | ok ds m3 =>
            refine q σ env A1 H1 m _ (hg.pre s1.pre) (hv.stab s1) r1 ?_
            rw [e3] at p1 ⊢
            intro vs A2 H2 s2 r2 rvs
            exact ⟨by simp [rvs.length, key ds m3 e3], A2, m3, .ref nn :: ds, r2, .cons (.ref (pre_get s2.pre hnn)) rvs, Post.up s2 p1⟩
          | er y m3 =>
            refine q σ env A1 H1 m _ (hg.pre s1.pre) (hv.stab s1) r1 ?_
            rw [e3] at p1 ⊢
            exact p1
          | no => rw [e3] at p1; exact p1.elim
        · exact p1.elim
      · exact p1.elim
    | _ => exact p1.elim⟩
theorem se_meth0 {k : Nat} {cn mn : Str} {af : AF} {pl : Sem Bool} (F : MetA X.prog X.w X.K X.mg X.base g k cn mn 1 af) (hr : Room k X.A) (ho : SE X g γ o ia)
    (ht : eval (.Call (.Attribute o mn apos) [] [] pos) X.env = (do
      let ov ← eval o X.env
      standAt apos.atName
      let (f, first) ← holding [ov] (getMethod ov mn pl)
      callWith pos f first (backTo pos (starEach [] X.env)) (backToKw pos (keywordEach [] X.env))) := by rfl) :
    SE X g γ (.Call (.Attribute o mn apos) [] [] pos) (eMeth cn mn af ia aNil) := ⟨fun W tk => by
  obtain ⟨to, po, qo⟩ := ho.out W tk
  obtain ⟨f, fd, ps, hC, hM, hb, F⟩ := F.ex
  refine ⟨fun σ H Q => to σ H fun x H1 => ∃ a dx fs, x = .ref a ∧ H1 a = some (.ins (g.ca cn) dx fs) ∧ fs.lookup mn = none ∧ spOf X.K g 1 af [x] H1 Q (WE W σ), ⟨fun pins s σ H Q I h => ?_⟩, fun σ env A H mem Q hg hv hr hp => ?_⟩
  · refine PySem.W.methodCall_KW (pl := pl) (thn (po.run pins s σ H _ I h) fun u s1 ⟨x, H1, I1, rx, a, dx, fs, ex, ea, l, q1⟩ => ?_) ht
    subst ex
    obtain rfl : u = Value.ref a := rx
    refine getmeth_ok I1 ea hC hM l ?_
    exact PySem.W.callWith_K0 (first := [.ref a]) I1.kIn hM.kp (run_fnS (us := [.ref a]) (vs := [.ref a]) F hr hb (passAt tk σ) I1 (.cons rfl .nil) q1)
  · unfold eMeth at hp
    refine qo σ env A H mem _ hg hv hr (Post.bnd hp fun v A1 H1 d m s1 r1 rv p1 => ?_)
    cases rv with
    | @ref nn a hnn =>
      dsimp only at p1
      split at p1
      · rename_i c' fs hm
        split at p1
        · rename_i hc
          obtain ⟨rfl, hlk⟩ := hc
          obtain ⟨dx, fv, e1, l⟩ := r1.cell _ _ _ hnn hm
          exact ⟨a, dx, fv, rfl, e1, l.lookN hlk, rfl, A1, m, [.ref nn], r1, .cons (.ref hnn) .nil, p1⟩
        · exact p1.elim
      · exact p1.elim
    | _ => exact p1.elim⟩
end
section
variable {P : Program} {w : World} {K : PySem.W.Frag} {mg : Str → Option Value} {base h : Heap} {c m qual : Str} {st : Stmt} {k n : Nat} {af : AF}
structure MetIn (K : PySem.W.Frag) (c m qual : Str) (st : Stmt) : Prop where
  ex : ∃ C f fd, PySem.W.nsIn K mainGlobals c = some (some (.ref C)) ∧ Meth K C m f ∧ Fun K m qual st f fd
theorem met_in {C f : Addr} {oc : Value} {od an : Option Addr} {osl : Array (Option Value)} {kV doc pm cdv ct : Value} (aC : PySem.W.nsIn K mainGlobals c = some (some (.ref C)))
    (a1 : PySem.W.findIn K (.ref C) m = some (some (.ref f))) (i1 : PySem.W.isFn K (.ref f) = true)
    (l : K.lookup f = some ⟨oc, od, .func (PySem.W.fnOf m qual (defArgs st) (defBody st) (defScope st) .none kV doc pm an cdv ct), osl⟩)
    (cd : PySem.W.codeIn K cdv qual = true) (kp : PySem.W.keepIn K (.ref f) = true) : MetIn K c m qual st := ⟨C, f, _, aC, ⟨a1, i1, kp⟩, fun_mk l cd kp⟩
theorem metA_of {qi : Str} {sti : Stmt} (X : K.In h) (G : h.Ns mainGlobals mg) (D : MetIn K c m qual st) (Ci : ClsIn K c qi sti) {ps : List Str} (hb : ∀ f fd, Fun K m qual st f fd → Binds K fd ps [])
    (ok : ∀ f fd, Fun K m qual st f fd → FnOk P w K mg base (L2.CX P w) k f fd ps (spOf K (gOf mg) n af)) : MetA P w K mg base (gOf mg) k c m n af := by
  obtain ⟨C, f, fd, e, h2, F⟩ := D.ex
  have e2 := gOf_ca (PySem.W.mg_of X G e)
  exact ⟨f, fd, ps, Ci.cls X G, by rw [e2]; exact h2, hb f fd F, ok f fd F⟩
end
end Ab
set_option Elab.async false
set_option linter.all false
set_option maxRecDepth 100000
namespace L2
open PySem PySem.Spec PyProof.Rows PySem.W
/-- ((a, b), c) -/
abbrev T3 := (Int × Int) × Int
abbrev enc3 (r : T3) : PyData := Datum.toD r
noncomputable def sort3 (rs : List T3) : List T3 := rs.mergeSort (PySem.W.dataLe false enc3)
theorem sort3_perm (rs : List T3) : (sort3 rs).Perm rs := List.mergeSort_perm _ _
theorem le3 (x y : T3) : PySem.W.dataLe false enc3 x y = !DatumOrd.lt y x := by
  show (!(PySem.W.dataLt (enc3 y) (enc3 x))) = _
  rw [DatumOrd.lt_eq]
section
variable {β : Type}
theorem eachOf {P : V → β → Prop} : ∀ {xs : List V} {us : List Value} {rs : List β}, Vals xs us → xs.length = rs.length → (∀ x r, (x, r) ∈ xs.zip rs → P x r) → PySem.W.EachIs (fun u r => ∃ x, RelV x u ∧ P x r) us rs
  | _, _, [], .nil, _, _ => .nil
  | _, _, [], .cons _ _, h, _ => by cases h
  | _, _, _ :: _, .nil, h, _ => by cases h
  | _, _, r :: rs, .cons (a := x) ru l, h, hp => .cons ⟨x, ru, hp x r (by rw [List.zip_cons_cons]; exact List.mem_cons_self)⟩ (eachOf l (by simpa using h) fun y q hq => hp y q (by rw [List.zip_cons_cons]; exact List.mem_cons_of_mem _ hq))
theorem eachReads {enc : β → PyData} {h : Heap} : ∀ {us : List Value} {rs : List β} {as : List Addr}, ReadsAll h us (rs.map enc) as → PySem.W.EachIs (fun u r => ∃ as, Reads h u (enc r) as) us rs
  | _, [], _, .nil => .nil
  | _, _ :: _, _, .cons r l => .cons ⟨_, r⟩ (eachReads l)
theorem eachBack {P : V → β → Prop} : ∀ {us : List Value} {rs : List β}, PySem.W.EachIs (fun u r => ∃ x, RelV x u ∧ P x r) us rs → ∃ ys, Vals ys us ∧ Paired P ys rs
  | _, _, .nil => ⟨[], .nil, .nil⟩
  | _, _, .cons ⟨x, h1, h2⟩ l => by
    obtain ⟨ys, a, b⟩ := eachBack l
    exact ⟨x :: ys, .cons h1 a, .cons h2 b⟩
end
def rSorted3 (K : PySem.W.Frag) : List V → Hp → VK → Prop := fun vs H Q => ∃ (a : Addr) (xs : List V) (rs : List T3), vs = [V.ref a] ∧ SqL K H a xs ∧ DpAll K H xs (rs.map enc3) ∧
  ∀ (ys : List V) (p : Addr), Paired (fun x r => (x, r) ∈ xs.zip rs) ys (sort3 rs) → H p = none → Q (.ref p) (upd H p (.lst ys))
theorem cr_sorted3 {X : Cx} (hu : X.A.units + 65 < cLine) : CallR X (.builtin "sorted") (rSorted3 X.K) := by
  intro pins s σ H vs us Q I r h
  obtain ⟨a, xs, rs, rfl, hs, hd, q⟩ := h
  obtain ⟨its, rv, pl, hz⟩ := I.list hs
  rw [Vals.ref1 r]
  obtain ⟨as, hrd⟩ := Dp.readsAll I _ _ its hd rv
  have hlr : xs.length = rs.length := by
    have e := (eachReads hrd).length
    rw [← e]; exact rv.length
  have e1 := eachOf (P := fun x r => (x, r) ∈ xs.zip rs) rv hlr fun _ _ h => h
  refine PySem.W.sorted_data pl.isList e1 (eachReads hrd) (PySem.W.AllAlike.of fun b b' => DatumOrd.alike b b') (.inl fun d hd => ?_) (by rw [← hlr]; exact hz) (fun b _ => ?_) fun out _ ho => ?_
  · obtain ⟨r, hr, rfl⟩ := List.mem_map.mp hd
    exact ⟨_, _, rfl⟩
  · show X.A.units + 2 + PyData.depth (.tuple [.tuple [.int b.1.1, .int b.1.2], .int b.2]) < cLine
    have : PyData.depth (.tuple [.tuple [.int b.1.1, .int b.1.2], .int b.2]) ≤ 10 := by simp [PyData.depth, PyData.depthAll]
    omega
  · obtain ⟨ys, h1, h2⟩ := eachBack ho
    obtain ⟨ep, he'⟩ := PyProof.Rows.sortedAll_at s.heap its out.toArray
    have hl : ys.length ≤ sizeLine := by
      have e2 : out.length = (sort3 rs).length := ho.length
      rw [(sort3_perm rs).length_eq, ← hlr] at e2
      rw [h1.length, e2]; exact hz
    exact ⟨.ref _, upd H (s.heap.objs.size + 1) (.lst ys), I.laid (t' := s.toks) (fun _ _ => PyProof.Rows.sortedAll_old) (Nat.le_succ _) ⟨hl, out, ep, h1, he'⟩, rfl, q _ _ h2 (I.hok.fresh (Nat.le_succ _))⟩
end L2
namespace Ab
open PySem PySem.Spec PyProof.Rows L2
section
variable {X : Cx} {g : Glb} {γ : Gam} {p pos : Pos}
abbrev tI3 (r : T3) : D := .tup [.tup [.int r.1.1, .int r.1.2], .int r.2]
def rows3 : List D → Option (List T3)
  | [] => some []
  | .tup [.tup [.int a, .int b], .int c] :: ds => (rows3 ds).map (((a, b), c) :: ·)
  | _ :: _ => none
theorem rows3_map : ∀ rs : List T3, rows3 (rs.map tI3) = some rs
  | [] => rfl
  | r :: rs => by show (rows3 (rs.map tI3)).map _ = _; rw [rows3_map rs]; rfl
theorem rows3_eq : ∀ {ds : List D} {rs : List T3}, rows3 ds = some rs → ds = rs.map tI3
  | [], rs, h => by cases h; rfl
  | d :: ds, rs, h => by
    unfold rows3 at h
    split at h
    · rename_i h0; cases h0
    · rename_i a b c ds' h0
      cases h0
      simp only [Option.map_eq_some_iff] at h
      obtain ⟨ms, e, rfl⟩ := h
      rw [rows3_eq e]; rfl
    · cases h
theorem rows3_dp {A : List Addr} {H : Hp} : ∀ {rs : List T3} {vs : List V}, RepL X.K g A H vs (rs.map tI3) → DpAll X.K H vs (rs.map enc3) ∧ ∀ x r, (x, r) ∈ vs.zip rs → Rep X.K g A H x (tI3 r)
  | [], vs, h => by cases h; exact ⟨.nil, fun x r h => by cases h⟩
  | r :: rs, vs, h => by
    cases h with
    | cons h1 h2 =>
      obtain ⟨a1, a2⟩ := rows3_dp h2
      refine ⟨.cons ?_ a1, fun x q hx => ?_⟩
      · cases h1 with
        | tup hq l =>
          cases l with
          | cons l1 l2 =>
            cases l2 with
            | cons l2 l3 =>
              cases l3
              cases l2
              cases l1 with
              | tup hq2 m =>
                cases m with
                | cons m1 m2 =>
                  cases m2 with
                  | cons m2 m3 =>
                    cases m3
                    cases m1; cases m2
                    exact .tup hq.t (.cons (.tup hq2.t (.cons (.int _) (.cons (.int _) .nil))) (.cons (.int _) .nil))
      · rw [List.zip_cons_cons] at hx
        rcases List.mem_cons.mp hx with e | hx
        · cases e; exact h1
        · exact a2 x q hx
noncomputable def bSorted3 : FL := fun ds m => match ds with
  | [.ref n] => match m[n]? with
    | some (.lst xs) => match rows3 xs with
      | some rs => .ok (.ref m.length) (m ++ [.lst ((sort3 rs).map tI3)])
      | none => .no
    | _ => .no
  | _ => .no
theorem repL_rows3 {A : List Addr} {H : Hp} {Z : List (V × T3)} (hz : ∀ x r, (x, r) ∈ Z → Rep X.K g A H x (tI3 r)) : ∀ {ys : List V} {rs : List T3}, Paired (fun x r => (x, r) ∈ Z) ys rs → RepL X.K g A H ys (rs.map tI3)
  | _, _, .nil => .nil
  | _, _, .cons h l => .cons (hz _ _ h) (repL_rows3 hz l)
theorem ca_sorted3 (hu : X.A.units + 65 < cLine) : CaA X g (.builtin "sorted") bSorted3 := ⟨_, cr_sorted3 hu, fun A H mem xs ds Q W R rs p => by
  unfold bSorted3 at p
  split at p
  · rename_i n
    split at p
    · rename_i ys hm
      split at p
      · rename_i rows hrw
        obtain ⟨v, rfl, rv⟩ := repL_one rs
        cases rv with
        | @ref _ a ha =>
          obtain ⟨vs, e1, q1⟩ := R.cell _ _ _ ha hm
          rw [rows3_eq hrw] at q1
          obtain ⟨d1, d2⟩ := rows3_dp q1
          refine ⟨a, vs, rows, rfl, .inl (.inl e1), d1, fun zs q hp hq => ?_⟩
          obtain ⟨s2, r2, e2⟩ := R.alloc (o := .lst zs) (c := .lst ((sort3 rows).map tI3)) hq fun s => ⟨_, upd_same, (repL_rows3 d2 hp).stab s⟩
          exact p _ _ _ s2 r2 (.ref e2)
      · exact p.elim
    · exact p.elim
  · exact p.elim⟩
end
end Ab
set_option Elab.async false
set_option linter.all false
set_option maxRecDepth 100000
/-! # a list turned round -/
namespace Ab
open PySem PySem.Spec PyProof.Rows L2
section
variable {X : Cx} {g : Glb} {γ : Gam} {p pos : Pos}
def eRevL (a : AE) : AE := fun env m => (a env m).bind fun d m => match d with
  | .ref n => match m[n]? with
    | some (.lst ds) => .ok (.ref m.length) (m ++ [.lst ds.reverse])
    | _ => .no
  | _ => .no
theorem se_revL {e : Expr} {a : AE} {k : Nat} {p1 p2 p3 : Pos} (he : SE X g γ e a) : SE X g γ (.Subscript e (.Slice none none (some (.UnaryOp .USub (.Constant (.int 1) k p1) p2)) p3) pos) (eRevL a) := ⟨fun W tk => by
  obtain ⟨t, pe, q⟩ := he.out W tk
  refine ⟨_, pe_revL pe, fun σ env A H mem Q hgm her hr hp => ?_⟩
  refine q σ env A H mem _ hgm her hr (hp.bnd fun v A1 H1 d m s1 r1 rv p1 => ?_)
  cases rv with
  | @ref n a ha =>
    dsimp only at p1
    split at p1
    · rename_i ds hm
      obtain ⟨vs, e1, q1⟩ := r1.cell _ _ _ ha hm
      refine ⟨a, vs, rfl, .inl (.inl e1), fun p' hp' => ?_⟩
      obtain ⟨s4, r4, e4⟩ := r1.alloc (o := .lst vs.reverse) (c := .lst ds.reverse) hp' fun s => ⟨_, upd_same, (RepL.rev q1).stab s⟩
      exact p1 _ _ _ s4 r4 (.ref e4)
    · exact p1.elim
  | _ => exact p1.elim⟩
end
end Ab
set_option Elab.async false
set_option linter.all false
set_option maxRecDepth 100000
namespace Cl
open PySem PySem.Spec PyProof.Rows L2 Ab
/-! ### the abstract words, read off -/
section
variable {α β : Type} {m : Mem} {e : Env'} {d x y : D} {a b c : AE} {aa : AA} {t u : AT} {s s' : AS} {i : Nat} {f : F2} {f' : F2} {fl : FL} {g g' : AG} {ds : List D}
@[simp] theorem v_bind {z : α} {k : α → Mem → R β} : (R.ok z m).bind k = k z m := rfl
@[simp] theorem v_bindE {z : Ex} {k : α → Mem → R β} : (R.er z m : R α).bind k = .er z m := rfl
@[simp] theorem v_o {z : α} {k : α → Mem → O} : (R.ok z m).o e k = k z m := rfl
@[simp] theorem v_oE {z : Ex} {k : α → Mem → O} : (R.er z m : R α).o e k = .er z e m := rfl
@[simp] theorem v_nx {k : AS} : (O.nx e m).seq k = k e m := rfl
@[simp] theorem v_rt {k : AS} : (O.rt d m).seq k = .rt d m := rfl
@[simp] theorem v_er {k : AS} {z : Ex} : (O.er z e m).seq k = .er z e m := rfl
@[simp] theorem v_frt : (O.rt d m).f = .ok d m := rfl
@[simp] theorem v_fnx : (O.nx e m).f = .ok .non m := rfl
@[simp] theorem v_fer {z : Ex} : (O.er z e m).f = .er z m := rfl
theorem v_var (h : e[i]? = some (some d)) : eVar i e m = .ok d m := by unfold eVar; rw [h]
@[simp] theorem v_v0 {z : Option D} {r : Env'} : eVar 0 (some d :: r) m = .ok d m := rfl
@[simp] theorem v_vs {z : Option D} {r : Env'} : eVar (i + 1) (z :: r) m = eVar i r m := rfl
@[simp] theorem v_c : eC d e m = .ok d m := rfl
@[simp] theorem v_op : eOp f a b e m = (a e m).bind fun x m => (b e m).bind fun y m => f x y m := rfl
@[simp] theorem v_un {f1 : F1} : eUn f1 a e m = (a e m).bind f1 := rfl
@[simp] theorem v_nil : aNil e m = .ok [] m := rfl
@[simp] theorem v_cons : aCons a aa e m = (a e m).bind fun x m => (aa e m).bind fun xs m => .ok (x :: xs) m := rfl
@[simp] theorem v_call : eCall fl aa e m = (aa e m).bind fl := rfl
@[simp] theorem v_if : eIf t a b e m = (t e m).bind fun k m => if k = true then a e m else b e m := rfl
@[simp] theorem v_val : tVal a e m = (a e m).bind asB := rfl
@[simp] theorem v_asB {k : Bool} : asB (.bl k) m = .ok k m := rfl
@[simp] theorem v_nt : tNt t e m = (t e m).bind fun k m => .ok (!k) m := rfl
@[simp] theorem v_an : tAn t u e m = (t e m).bind fun k m => if k = true then u e m else .ok false m := rfl
@[simp] theorem v_or : tOrr t u e m = (t e m).bind fun k m => if k = true then .ok true m else u e m := rfl
@[simp] theorem v_eand : eAnd a b e m = ((a e m).bind asB).bind fun k m => if k = true then b e m else .ok (.bl false) m := rfl
@[simp] theorem v_eor : eOr a b e m = ((a e m).bind asB).bind fun k m => if k = true then .ok (.bl true) m else b e m := rfl
@[simp] theorem v_enot : eNot a e m = ((a e m).bind asB).bind fun k m => .ok (.bl (!k)) m := rfl
@[simp] theorem v_chain : eChain f f' a b c e m = (a e m).bind fun x m => (b e m).bind fun y m => ((f x y m).bind asB).bind fun k m => if k = true then (c e m).bind fun z m => f' y z m else .ok (.bl false) m := rfl
@[simp] theorem v_seq : sSeq s s' e m = (s e m).seq s' := rfl
@[simp] theorem v_skip : sSkip e m = .nx e m := rfl
@[simp] theorem v_asg : sAsg a g e m = (a e m).o e fun d m => (g d e m).o e fun e m => .nx e m := rfl
@[simp] theorem v_ret : sRet a e m = (a e m).o e fun d m => .rt d m := rfl
@[simp] theorem v_retN : sRetN e m = .rt .non m := rfl
@[simp] theorem v_exp : sExp a e m = (a e m).o e fun _ m => .nx e m := rfl
@[simp] theorem v_sif : sIf t s s' e m = (t e m).o e fun k m => if k = true then s e m else s' e m := rfl
@[simp] theorem v_gN : gN i d e m = .ok (e.set i (some d)) m := rfl
@[simp] theorem v_gT {n : Nat} {w : AGs} : gT n w (.tup ds) e m = if ds.length = n then (match w ds e m with | .ok e2 m2 => .ok e2 m2 | _ => .no) else .no := rfl
@[simp] theorem v_gsNil : gsNil [] e m = .ok e m := rfl
@[simp] theorem v_gsCons {w : AGs} {r : List D} : gsCons g w (d :: r) e m = match g d e m with | .ok env' m' => (match w r env' m' with | .ok e2 m2 => .ok e2 m2 | _ => .no) | _ => .no := rfl
@[simp] theorem v_gS {F : D → D → D → Mem → R Unit} : gS F a b d e m = (a e m).bind fun x m => (b e m).bind fun y m => match F x y d m with | .ok _ m => .ok e m | _ => .no := rfl
@[simp] theorem v_add {j k : Int} : dAdd (.int j) (.int k) m = .ok (.int (j + k)) m := rfl
@[simp] theorem v_sub {j k : Int} : dSub (.int j) (.int k) m = .ok (.int (j - k)) m := rfl
@[simp] theorem v_cmp {p : Int → Int → Bool} {j k : Int} : dCmp p (.int j) (.int k) m = .ok (.bl (p j k)) m := rfl
theorem v_mul {j k : Int} (h : (-(2 ^ 64) < j ∧ j < 2 ^ 64) ∨ (-(2 ^ 64) < k ∧ k < 2 ^ 64)) : dMul (.int j) (.int k) m = .ok (.int (j * k)) m := if_pos h
theorem v_mod {j k : Int} (h : k ≠ 0) : dMod (.int j) (.int k) m = .ok (.int (j.fmod k)) m := if_pos h
theorem v_fdiv {j k : Int} (h : k ≠ 0 ∧ k.natAbs < 1073741824) : dFdiv (.int j) (.int k) m = .ok (.int (j.fdiv k)) m := if_pos h
@[simp] theorem v_int {j : Int} : bInt [.int j] m = .ok (.int j) m := rfl
@[simp] theorem v_intB {k : Bool} : bInt [.bl k] m = .ok (.int (if k then 1 else 0)) m := rfl
@[simp] theorem v_isi {T : String} : eIsi T a e m = (a e m).bind fun d m => match tyN d m with | some t => (match kitB t T with | some b => .ok (.bl b) m | none => .no) | none => .no := rfl
@[simp] theorem v_raise0 {z : Str} : sRaise0 z e m = .er ⟨z, none⟩ e m := rfl
theorem v_tup (h : ds.length ≤ sizeLine) : mkTup ds m = .ok (.tup ds) m := if_pos h
theorem v_lst (h : ds.length ≤ sizeLine) : mkLst ds m = .ok (.ref m.length) (m ++ [.lst ds]) := if_pos h
theorem v_ixL {n : Nat} {j : Int} (h : m[n]? = some (.lst ds)) (h2 : atI ds j = some d) : dIx (.ref n) (.int j) m = .ok d m := by unfold dIx; simp only [h, h2]
theorem v_ixT {j : Int} (h2 : atI ds j = some d) : dIx (.tup ds) (.int j) m = .ok d m := by unfold dIx; simp only [h2]
theorem v_setL {n j : Nat} {k : Int} (h : m[n]? = some (.lst ds)) (h2 : ixN ds.length k = some j) : dSet (.ref n) (.int k) d m = .ok () (m.set n (.lst (ds.set j d))) := by unfold dSet; simp only [h, h2]
theorem v_lenL {n : Nat} (h : m[n]? = some (.lst ds)) : bLen [.ref n] m = .ok (.int (ds.length : Int)) m := by unfold bLen itemsD; simp only [h]
@[simp] theorem v_lenT : bLen [.tup ds] m = .ok (.int (ds.length : Int)) m := rfl
end
/-! ### what comes out -/
def Ok {α : Type} (r : R α) (Q : α → Mem → Prop) : Prop := match r with
  | .ok d m => Q d m
  | _ => False
def Nx (r : O) (Q : Env' → Mem → Prop) : Prop := match r with
  | .nx d m => Q d m
  | _ => False
section
variable {α β γ : Type} {r : R α} {m : Mem} {e : Env'} {Q : α → Mem → Prop} {Q' : β → Mem → Prop} {K : Env' → Mem → Prop} {s s' : AS}
@[simp] theorem ok_ok {d : α} : Ok (R.ok d m) Q = Q d m := rfl
@[simp] theorem nx_nx : Nx (O.nx e m) K = K e m := rfl
@[simp] theorem bind_bind {f : α → Mem → R β} {k : β → Mem → R γ} : (r.bind f).bind k = r.bind fun d m => (f d m).bind k := by cases r <;> rfl
@[simp] theorem o_bind {f : α → Mem → R β} {k : β → Mem → O} : (r.bind f).o e k = r.o e fun d m => (f d m).o e k := by cases r <;> rfl
@[simp] theorem seq_o {k : α → Mem → O} : (r.o e k).seq s = r.o e fun d m => (k d m).seq s := by cases r <;> rfl
@[simp] theorem f_o {k : α → Mem → O} : (r.o e k).f = r.bind fun d m => (k d m).f := by cases r <;> rfl
theorem ok_bind {f : α → Mem → R β} (h : Ok r fun d m => Ok (f d m) Q') : Ok (r.bind f) Q' := by cases r <;> first | exact h | exact h.elim
theorem nx_o {k : α → Mem → O} (h : Ok r fun d m => Nx (k d m) K) : Nx (r.o e k) K := by cases r <;> first | exact h | exact h.elim
theorem ok_mono {Q2 : α → Mem → Prop} (h : Ok r Q) (k : ∀ d m, Q d m → Q2 d m) : Ok r Q2 := by cases r <;> first | exact k _ _ h | exact h.elim
theorem nx_mono {r : O} {K2 : Env' → Mem → Prop} (h : Nx r K) (k : ∀ d m, K d m → K2 d m) : Nx r K2 := by cases r <;> first | exact k _ _ h | exact h.elim
theorem seq_f {Q : D → Mem → Prop} {o : O} (h : Nx o fun e m => Ok (s' e m).f Q) : Ok (o.seq s').f Q := by cases o <;> first | exact h | exact h.elim
theorem seq_n {o : O} (h : Nx o fun e m => Nx (s' e m) K) : Nx (o.seq s') K := by cases o <;> first | exact h | exact h.elim
theorem ok_ex (h : Ok r Q) : ∃ d m', r = .ok d m' ∧ Q d m' := by cases r <;> first | exact ⟨_, _, rfl, h⟩ | exact h.elim
end
@[simp] theorem kb_ii : kitB "int" "int" = some true := by decide +kernel
@[simp] theorem kb_ib : kitB "int" "bool" = some false := by decide +kernel
@[simp] theorem kb_bi : kitB "bool" "int" = some true := by decide +kernel
@[simp] theorem kb_bb : kitB "bool" "bool" = some true := by decide +kernel
@[simp] theorem kb_ni : kitB "NoneType" "int" = some false := by decide +kernel
@[simp] theorem kb_si : kitB "str" "int" = some false := by decide +kernel
@[simp] theorem kb_ti : kitB "tuple" "int" = some false := by decide +kernel
@[simp] theorem kb_li : kitB "list" "int" = some false := by decide +kernel
@[simp] theorem kb_di : kitB "dict" "int" = some false := by decide +kernel
@[simp] theorem kb_tt : kitB "tuple" "tuple" = some true := by decide +kernel
@[simp] theorem ty_i {j : Int} {m : Mem} : tyN (.int j) m = some "int" := rfl
@[simp] theorem ty_b {j : Bool} {m : Mem} : tyN (.bl j) m = some "bool" := rfl
@[simp] theorem ty_n {m : Mem} : tyN .non m = some "NoneType" := rfl
@[simp] theorem ty_s {s : Str} {m : Mem} : tyN (.str s) m = some "str" := rfl
@[simp] theorem ty_t {s : List D} {m : Mem} : tyN (.tup s) m = some "tuple" := rfl
end Cl
set_option Elab.async false
set_option linter.all false
set_option maxRecDepth 100000
namespace Cl
open PySem PySem.Spec PyProof.Rows L2 Ab
variable {α β : Type} {m m1 m2 : Mem} {e e2 : Env'} {Q : D → Mem → Prop} {s : AS}
def I (n : Nat) : D := .int (n : Int)
def Fr (h : Nat) (m m' : Mem) : Prop := ∀ i c, m[i]? = some c → i ≠ h → m'[i]? = some c
theorem Fr.refl {h : Nat} {m : Mem} : Fr h m m := fun _ _ e _ => e
theorem Fr.trans {h : Nat} {m m1 m2 : Mem} (a : Fr h m m1) (b : Fr h m1 m2) : Fr h m m2 := fun i c e n => b i c (a i c e n) n
theorem Fr.set {h : Nat} {m : Mem} {c : Cell} : Fr h m (m.set h c) := fun i _ e n => by rw [List.getElem?_set_ne (Ne.symm n)]; exact e
theorem Fr.add {h : Nat} {m x : Mem} : Fr h m (m ++ x) := fun i c e _ => by rw [List.getElem?_append_left (List.getElem?_eq_some_iff.mp e).1]; exact e
theorem get_set {h : Nat} {m : Mem} {c d : Cell} (e : m[h]? = some d) : (m.set h c)[h]? = some c := by
  rw [List.getElem?_set_self (List.getElem?_eq_some_iff.mp e).1]
def isI : D → Bool
  | .int _ => true
  | _ => false
def between (d : D) (lo hi : Int) : Bool := match d with
  | .int i => decide (lo ≤ i) && decide (i ≤ hi)
  | _ => false
theorem toP_int {m : Mem} {f : Nat} {i : Int} : toP m f (.int i) = some (.int i) := by cases f <;> rfl
theorem w_eqI {m : Mem} {i j : Int} : dEq (.int i) (.int j) m = .ok (.bl (decide (i = j))) m := by
  unfold dEq
  rw [toP_int, toP_int]
  dsimp only
  rw [if_pos ⟨rfl, rfl⟩]
  rfl
theorem w_neI {m : Mem} {i j : Int} : dNe (.int i) (.int j) m = .ok (.bl (!decide (i = j))) m := by
  unfold dNe
  rw [toP_int, toP_int]
  dsimp only
  rw [if_pos ⟨rfl, rfl⟩]
  rfl
def pI (n : Nat) : PyData := .int (n : Int)
theorem canI : ∀ l : List Nat, PyData.canLayAll0 (l.map pI) = true
  | [] => by simp [PyData.canLayAll0]
  | x :: l => by
    have := canI l
    simp [PyData.canLayAll0, PyData.canLay0, pI, this]
theorem depI : ∀ l : List Nat, PyData.depthAll (l.map pI) = 0
  | [] => by simp [PyData.depthAll]
  | x :: l => by
    have := depI l
    simp [PyData.depthAll, PyData.depth, pI, this]
theorem shapedL (l : List Nat) : SeqAt.shaped (.list (l.map pI)) = true := by
  simp [SeqAt.shaped, PyData.canLay0, PyData.depth, canI, depI]
theorem shapedT (l : List Nat) : SeqAt.shaped (.tuple (l.map pI)) = true := by
  simp [SeqAt.shaped, PyData.canLay0, PyData.depth, canI, depI]
theorem mapI {m : Mem} {f : Nat} : ∀ l : List Nat, (l.map I).mapM (toP m f) = some (l.map pI)
  | [] => rfl
  | x :: l => by
    rw [List.map_cons, List.mapM_cons, mapI l]
    show (toP m f (.int x)).bind _ = _
    rw [toP_int]; rfl
theorem toP_lst {m : Mem} {n : Nat} {l : List Nat} (h : m[n]? = some (.lst (l.map I))) : toP m DEEP (.ref n) = some (.list (l.map pI)) := by
  show (match m[n]? with | some (.lst ds) => (ds.mapM (toP m 69)).map PyData.list | some (.rol ds) => (ds.mapM (toP m 69)).map PyData.list | _ => none) = _
  rw [h]
  dsimp only
  rw [mapI]; rfl
theorem toP_tup {m : Mem} {l : List Nat} : toP m DEEP (.tup (l.map I)) = some (.tuple (l.map pI)) := by
  show ((l.map I).mapM (toP m 69)).map PyData.tuple = _
  rw [mapI]; rfl
theorem eqvI (x y : Nat) : PyData.eqv (pI x) (pI y) = decide (x = y) := by
  show ((x : Int) == (y : Int)) = _
  by_cases h : x = y
  · subst h; simp
  · rw [decide_eq_false h]
    exact beq_eq_false_iff_ne.mpr fun z => h (by omega)
theorem findI {e : Nat} : ∀ {l : List Nat}, e ∈ l → (l.map pI).findIdx? (fun z => PyData.eqv z (pI e)) = some (l.idxOf e)
  | x :: l, h => by
    rw [List.map_cons, List.findIdx?_cons, eqvI]
    by_cases z : x = e
    · subst z; simp
    · rw [decide_eq_false z]
      have hm : e ∈ l := by rcases List.mem_cons.mp h with q | q; exact absurd q.symm z; exact q
      rw [findI hm]
      rw [List.idxOf_cons, beq_eq_false_iff_ne.mpr z]; rfl
theorem w_index {m : Mem} {n : Nat} {l : List Nat} {e : Nat} (h : m[n]? = some (.lst (l.map I))) (he : e ∈ l) : mIndex (.ref n) [I e] m = .ok (I (l.idxOf e)) m := by
  unfold mIndex
  dsimp only
  rw [toP_lst h, show toP m DEEP (I e) = some (pI e) from toP_int]
  dsimp only
  rw [if_pos ⟨shapedL l, rfl⟩, findI he]
  rfl
def Pre (m m' : Mem) : Prop := ∀ (i : Nat) (c : Cell), m[i]? = some c → m'[i]? = some c
theorem Pre.refl {m : Mem} : Pre m m := fun _ _ e => e
theorem Pre.add {m x : Mem} : Pre m (m ++ x) := fun i c e => by rw [List.getElem?_append_left (List.getElem?_eq_some_iff.mp e).1]; exact e
theorem Pre.trans {m m1 m2 : Mem} (a : Pre m m1) (b : Pre m1 m2) : Pre m m2 := fun i c e => b i c (a i c e)
theorem Pre.fr {h : Nat} {m m' : Mem} (a : Pre m m') : Fr h m m' := fun i c e _ => a i c e
theorem Pre.len {m m' : Mem} (a : Pre m m') : m.length ≤ m'.length := by
  cases h : m.length with
  | zero => omega
  | succ k =>
    have hk : k < m.length := by omega
    have := (List.getElem?_eq_some_iff.mp (a k m[k] (List.getElem?_eq_getElem hk))).1
    omega
theorem new_get {m : Mem} {c : Cell} : (m ++ [c])[m.length]? = some c := by simp
theorem cut_lo {α : Type} (xs : List α) (k : Nat) : Ab.cutD xs none (some (k : Int)) = xs.take k := by
  unfold Ab.cutD
  rw [HT.sIx_nat]
  simp [HT.sIx]
theorem cut_hi {α : Type} (xs : List α) (k : Nat) : Ab.cutD xs (some (k : Int)) none = xs.drop k := by
  unfold Ab.cutD
  rw [HT.sIx_nat]
  simp only [HT.sIx]
  by_cases h : k ≤ xs.length
  · rw [Nat.min_eq_left h]
    exact List.take_of_length_le (by simp)
  · rw [Nat.min_eq_right (by omega), List.drop_length, List.drop_eq_nil_of_le (by omega)]
    simp
theorem w_slL {m : Mem} {n : Nat} {ds : List D} {lo hi : Option Int} (h : m[n]? = some (.lst ds)) : dSl (.ref n) lo hi m = .ok (.ref m.length) (m ++ [.lst (Ab.cutD ds lo hi)]) := by unfold dSl; simp only [h]
theorem w_catL {m : Mem} {p q : Nat} {a b : List D} (h : m[p]? = some (.lst a)) (h2 : m[q]? = some (.lst b)) (hl : a.length + b.length ≤ sizeLine) : dAdd (.ref p) (.ref q) m = .ok (.ref m.length) (m ++ [.lst (a ++ b)]) := by
  unfold dAdd; simp only [h, h2]; exact if_pos hl
theorem w_mt {ty : D → Mem → Bool} {F : D → FL} {a : AE} {aa : AA} {e : Env'} {m : Mem} : eMt ty F a aa e m = (a e m).bind fun x m => if ty x m = true then (aa e m).bind fun xs m => F x xs m else .no := rfl
theorem w_isL {m : Mem} {n : Nat} {ds : List D} (h : m[n]? = some (.lst ds)) : isL (.ref n) m = true := by unfold isL; simp only [h]
theorem w_sl {a : AE} {lo hi : AO} {e : Env'} {m : Mem} : eSl a lo hi e m = (a e m).bind fun x m => (lo e m).bind fun l m => (hi e m).bind fun h m => dSl x l h m := rfl
theorem w_oS {e : Env'} {m : Mem} {a : AE} : oSome a e m = (a e m).bind fun d m => match d with | .int i => .ok (some i) m | _ => .no := rfl
def Rt (o : O) (Q : D → Mem → Prop) : Prop := match o with
  | .rt d m => Q d m
  | _ => False
theorem rt_f {o : O} (h : Rt o Q) : Ok (o.seq s).f Q := by cases o <;> first | exact h | exact h.elim
theorem rt_seq {o : O} (h : Nx o fun e m => Rt (s e m) Q) : Rt (o.seq s) Q := by cases o <;> first | exact h | exact h.elim
theorem rt_mono {o : O} {Q2 : D → Mem → Prop} (h : Rt o Q) (k : ∀ d m, Q d m → Q2 d m) : Rt o Q2 := by cases o <;> first | exact k _ _ h | exact h.elim
theorem forL_rt {tg : AG} {b : AS} {gd : Gd} {d : D} {l : List D} (hg : gd.Ok m) (ht : tg d e m = .ok e2 m) (h : Rt (b e2 m) Q) : Rt (forL tg b gd (d :: l) e m) Q := by
  unfold forL
  rw [if_pos hg, ht]
  show Rt (match b e2 m with | .nx e m => forL tg b gd l e m | .ct e m => forL tg b gd l e m | .bk e m => .nx e m | .rt d m => .rt d m | .er x e m => .er x e m | .no => .no) Q
  cases h2 : b e2 m with
  | rt d m => rw [h2] at h; exact h
  | _ => rw [h2] at h; exact h.elim
theorem gd_nil : Gd.Ok [] m := fun p hp => by cases hp
theorem w_for {it : AI} {tg : AG} {b : AS} : sFor it tg b e m = (it e m).o e fun p m => forL tg b p.2 p.1 e m := rfl
theorem w_iE {a : AE} : iE a e m = (a e m).bind itD := rfl
theorem forL_go {tg : AG} {b : AS} {gd : Gd} (Inv : List D → Env' → Mem → Prop) (hs : ∀ d r e m, Inv (d :: r) e m → gd.Ok m ∧ ∃ e2, tg d e m = .ok e2 m ∧ Nx (b e2 m) (Inv r)) (hf : ∀ e m, Inv [] e m → gd.Ok m) :
    ∀ (ds : List D) (e : Env') (m : Mem), Inv ds e m → Nx (forL tg b gd ds e m) (Inv [])
  | [], e, m, h => by
    unfold forL
    rw [if_pos (hf e m h)]
    exact h
  | d :: r, e, m, h => by
    obtain ⟨h1, e2, h2, h3⟩ := hs d r e m h
    unfold forL
    rw [if_pos h1, h2]
    show Nx (match b e2 m with | .nx e m => forL tg b gd r e m | .ct e m => forL tg b gd r e m | .bk e m => .nx e m | .rt d m => .rt d m | .er x e m => .er x e m | .no => .no) _
    cases h4 : b e2 m with
    | nx e3 m3 => rw [h4] at h3; exact forL_go Inv hs hf r e3 m3 h3
    | _ => rw [h4] at h3; exact h3.elim
def enk (k : Nat) (ds : List D) : List D := (ds.zipIdx k).map fun p => .tup [.int (p.2 : Int), p.1]
theorem enk_cons {k : Nat} {d : D} {r : List D} : enk k (d :: r) = .tup [.int (k : Int), d] :: enk (k + 1) r := by unfold enk; rw [List.zipIdx_cons]; rfl
theorem putD_len (kvs : List (Key × D)) (k : Key) (v : D) : (putD kvs k v).length ≤ kvs.length + 1 := by
  unfold putD
  split <;> simp
theorem v_append {n : Nat} {m : Mem} {ds : List D} {d : D} (h : m[n]? = some (.lst ds)) (hl : ds.length < 2 ^ 24) : mAppend (.ref n) [d] m = .ok .non (m.set n (.lst (ds ++ [d]))) := by
  unfold mAppend
  simp only [h]
  exact if_pos hl
def Kp (S : List Nat) (m m' : Mem) : Prop := ∀ (i : Nat) (c : Cell), m[i]? = some c → i ∉ S → m'[i]? = some c
theorem Kp.refl {S : List Nat} {m : Mem} : Kp S m m := fun _ _ e _ => e
theorem Kp.trans {S : List Nat} {m m1 m2 : Mem} (a : Kp S m m1) (b : Kp S m1 m2) : Kp S m m2 := fun i c e n => b i c (a i c e n) n
theorem Kp.set {S : List Nat} {m : Mem} {n : Nat} {c : Cell} (h : n ∈ S) : Kp S m (m.set n c) := fun i _ e k => by rw [List.getElem?_set_ne (fun z => k (by rw [← z]; exact h))]; exact e
theorem Kp.pre {S : List Nat} {m m' : Mem} (a : Pre m m') : Kp S m m' := fun i c e _ => a i c e
theorem lcL_pure {α : Type} {tg : AG} {tt : AT} {el : AE} {gd : Gd} {env : Env'} {m0 : Mem} (gx : α → D) (p : α → Bool) (f : α → D) (hg : ∀ acc, gd.Ok (m0 ++ [.lst acc])) :
    ∀ (xs : List α) (acc : List D), (∀ x ∈ xs, ∀ acc, ∃ e2, tg (gx x) env (m0 ++ [.lst acc]) = .ok e2 (m0 ++ [.lst acc]) ∧ tt e2 (m0 ++ [.lst acc]) = .ok (p x) (m0 ++ [.lst acc]) ∧ (p x = true → el e2 (m0 ++ [.lst acc]) = .ok (f x) (m0 ++ [.lst acc]))) →
      acc.length + xs.length < 2 ^ 24 → lcL tg tt el gd env m0.length (xs.map gx) (m0 ++ [.lst acc]) = .ok () (m0 ++ [.lst (acc ++ (xs.filter p).map f)])
  | [], acc, _, _ => by
    show lcL tg tt el gd env m0.length [] (m0 ++ [.lst acc]) = _
    unfold lcL
    rw [if_pos (hg acc)]; simp
  | x :: xs, acc, h, hl => by
    obtain ⟨e2, h1, h2, h3⟩ := h x List.mem_cons_self acc
    have ih := fun acc hl => lcL_pure gx p f hg xs acc (fun y hy => h y (List.mem_cons_of_mem _ hy)) hl
    show lcL tg tt el gd env m0.length (gx x :: xs.map gx) (m0 ++ [.lst acc]) = _
    unfold lcL
    rw [if_pos (hg acc), h1]
    dsimp only
    rw [h2]
    dsimp only
    cases hp : p x with
    | false =>
      rw [if_neg Bool.false_ne_true, ih acc (by simp at hl; omega), List.filter_cons_of_neg (by simp [hp])]
    | true =>
      rw [if_pos rfl, h3 hp]
      dsimp only
      have hg2 : (m0 ++ [Cell.lst acc])[m0.length]? = some (.lst acc) := by simp
      rw [hg2]
      dsimp only
      rw [if_pos (by show acc.length < 2 ^ 24; simp at hl; omega)]
      have hs : (m0 ++ [Cell.lst acc]).set m0.length (.lst (acc ++ [f x])) = m0 ++ [.lst (acc ++ [f x])] := by simp
      rw [hs, ih _ (by simp at hl ⊢; omega), List.filter_cons_of_pos hp]
      simp
theorem lc_eq {α : Type} {it : AI} {tg : AG} {tt : AT} {el : AE} {gd : Gd} {vs : List Nat} {e : Env'} {m m1 : Mem} {ds : List D} (gx : α → D) (xs : List α) (p : α → Bool) (f : α → D) (hit : it e m = .ok (ds, gd) m1) (hds : ds = xs.map gx) (hg : ∀ acc, gd.Ok (m1 ++ [.lst acc])) (hl : xs.length < 2 ^ 24)
    (h : ∀ x ∈ xs, ∀ acc, ∃ e2, tg (gx x) (wipeE e vs) (m1 ++ [.lst acc]) = .ok e2 (m1 ++ [.lst acc]) ∧ tt e2 (m1 ++ [.lst acc]) = .ok (p x) (m1 ++ [.lst acc]) ∧ (p x = true → el e2 (m1 ++ [.lst acc]) = .ok (f x) (m1 ++ [.lst acc]))) :
    eLc it tg tt el vs e m = .ok (.ref m1.length) (m1 ++ [.lst ((xs.filter p).map f)]) := by
  unfold eLc
  rw [hit, v_bind, hds]
  dsimp only
  rw [lcL_pure gx p f hg xs [] h (by simpa using hl)]
  simp
theorem gd_add {m : Mem} {gd : Gd} {acc : List D} (h : gd.Ok m) : gd.Ok (m ++ [.lst acc]) := fun p hp => Pre.add _ _ (h p hp)
theorem v_slT {ds : List D} {lo hi : Option Int} {m : Mem} : dSl (.tup ds) lo hi m = .ok (.tup (Ab.cutD ds lo hi)) m := rfl
theorem v_catT {a b : List D} {m : Mem} (hl : a.length + b.length ≤ sizeLine) : dAdd (.tup a) (.tup b) m = .ok (.tup (a ++ b)) m := by unfold dAdd; dsimp only; rw [if_pos hl]
theorem v_fld {c f : Str} {a : AE} {e : Env'} {m m1 : Mem} {n : Nat} {fs : List (Str × D)} {d : D} (h1 : a e m = .ok (.ref n) m1) (h2 : m1[n]? = some (.ins c fs)) (h3 : lookF f fs = some d) : eFld c f a e m = .ok d m1 := by
  unfold eFld
  rw [h1, v_bind]
  dsimp only
  rw [h2]
  dsimp only
  rw [if_pos rfl, h3]
theorem set_same {m : Mem} {k : Nat} {c : Cell} (h : m[k]? = some c) : m.set k c = m := by
  apply List.ext_getElem?
  intro i
  by_cases z : i = k
  · subst z; rw [get_set h, h]
  · rw [List.getElem?_set_ne (Ne.symm z)]
theorem forL_nx {tg : AG} {b : AS} {gd : Gd} {d : D} {r : List D} {e e2 e3 : Env'} {m m3 : Mem} (hg : gd.Ok m) (ht : tg d e m = .ok e2 m) (hb : b e2 m = .nx e3 m3) : forL tg b gd (d :: r) e m = forL tg b gd r e3 m3 := by
  rw [show forL tg b gd (d :: r) e m = _ from by unfold forL; rfl, if_pos hg, ht]
  show (match b e2 m with | .nx e m => forL tg b gd r e m | .ct e m => forL tg b gd r e m | .bk e m => .nx e m | .rt d m => .rt d m | .er x e m => .er x e m | .no => .no) = _
  rw [hb]
theorem forL_nil {tg : AG} {b : AS} {gd : Gd} {e : Env'} {m : Mem} (hg : gd.Ok m) : forL tg b gd [] e m = .nx e m := by
  unfold forL; rw [if_pos hg]
theorem v_rep {m : Mem} {p n : Nat} {d : D} (h : m[p]? = some (.lst [d])) (hn : n < 10000) : dMul (.ref p) (.int (n : Int)) m = .ok (.ref m.length) (m ++ [.lst (List.replicate n d)]) := by
  unfold dMul
  dsimp only
  rw [h]
  dsimp only
  rw [if_pos ⟨by omega, by omega, by show 1 * ((n : Int)).toNat ≤ 2 ^ 24; simp; omega⟩]
  have : ∀ n : Nat, (List.replicate n [d]).flatten = List.replicate n d := by
    intro n
    induction n with
    | zero => rfl
    | succ n ih => rw [List.replicate_succ, List.flatten_cons, ih]; rfl
  simp [this]
theorem canS1 (x : Str) (h : PyData.strOk x = true) : SeqAt.shaped (.str x) = true := by simp [SeqAt.shaped, PyData.canLay0, PyData.depth, h]
theorem lcL_grow {α : Type} {tg : AG} {tt : AT} {el : AE} {gd : Gd} {env : Env'} {m0 : Mem} (gx : α → D) (p : α → Bool) (f : α → D) (hg : gd.Ok m0) :
    ∀ (xs : List α) (acc : List D) (m : Mem), (∀ x ∈ xs, ∀ m', Pre m0 m' → ∃ e2 m2, tg (gx x) env m' = .ok e2 m' ∧ tt e2 m' = .ok (p x) m2 ∧ Pre m' m2 ∧ (p x = true → ∃ m3, el e2 m2 = .ok (f x) m3 ∧ Pre m2 m3)) →
      Kp [m0.length] m0 m → m[m0.length]? = some (.lst acc) → acc.length + xs.length < 2 ^ 24 → ∃ m', lcL tg tt el gd env m0.length (xs.map gx) m = .ok () m' ∧ Kp [m0.length] m0 m' ∧ m'[m0.length]? = some (.lst (acc ++ (xs.filter p).map f)) := by
  have hgd : ∀ m, Kp [m0.length] m0 m → gd.Ok m := fun m hk p hp => hk _ _ (hg p hp) (by
    have := (List.getElem?_eq_some_iff.mp (hg p hp)).1
    simp; omega)
  have hpre : ∀ m, Kp [m0.length] m0 m → Pre m0 m := fun m hk i c e => hk i c e (by
    have := (List.getElem?_eq_some_iff.mp e).1
    simp; omega)
  intro xs
  induction xs with
  | nil =>
    intro acc m _ hk hm _
    refine ⟨m, ?_, hk, by simpa using hm⟩
    show lcL tg tt el gd env m0.length [] m = _
    unfold lcL
    rw [if_pos (hgd m hk)]
  | cons x xs ih =>
    intro acc m h hk hm hl
    obtain ⟨e2, m2, h1, h2, p2, h3⟩ := h x List.mem_cons_self m (hpre m hk)
    have ih := fun acc m => ih acc m fun y hy => h y (List.mem_cons_of_mem _ hy)
    show ∃ m', lcL tg tt el gd env m0.length (gx x :: xs.map gx) m = _ ∧ _
    have hun : lcL tg tt el gd env m0.length (gx x :: xs.map gx) m = (if p x = true then (match el e2 m2 with
        | .ok y m4 => match m4[m0.length]? with
          | some (.lst acc) => if acc.length < sizeLine then lcL tg tt el gd env m0.length (xs.map gx) (m4.set m0.length (.lst (acc ++ [y]))) else .no
          | _ => .no
        | _ => .no) else lcL tg tt el gd env m0.length (xs.map gx) m2) := by
      conv => lhs; unfold lcL
      rw [if_pos (hgd m hk), h1]
      dsimp only
      rw [h2]
      all_goals rfl
    cases hp : p x with
    | false =>
      rw [hp, if_neg Bool.false_ne_true] at hun
      obtain ⟨m', w1, w2, w3⟩ := ih acc m2 (hk.trans (Kp.pre p2)) (p2 _ _ hm) (by simp at hl; omega)
      exact ⟨m', hun.trans w1, w2, by rw [w3, List.filter_cons_of_neg (by simp [hp])]⟩
    | true =>
      obtain ⟨m3, h4, p3⟩ := h3 hp
      have hm3 := p3 _ _ (p2 _ _ hm)
      rw [hp, if_pos rfl, h4] at hun
      dsimp only at hun
      rw [hm3] at hun
      dsimp only at hun
      rw [if_pos (by show acc.length < 2 ^ 24; simp at hl; omega)] at hun
      obtain ⟨m', w1, w2, w3⟩ := ih (acc ++ [f x]) (m3.set m0.length (.lst (acc ++ [f x]))) (((hk.trans (Kp.pre p2)).trans (Kp.pre p3)).trans (Kp.set (by simp))) (get_set hm3) (by simp at hl ⊢; omega)
      exact ⟨m', hun.trans w1, w2, by rw [w3, List.filter_cons_of_pos hp]; simp⟩
theorem lc_grow {α : Type} {it : AI} {tg : AG} {tt : AT} {el : AE} {gd : Gd} {vs : List Nat} {e : Env'} {m m1 : Mem} {ds : List D} (gx : α → D) (xs : List α) (p : α → Bool) (f : α → D) (hit : it e m = .ok (ds, gd) m1) (hds : ds = xs.map gx) (hg : gd.Ok m1) (hl : xs.length < 2 ^ 24)
    (h : ∀ x ∈ xs, ∀ m', Pre m1 m' → ∃ e2 m2, tg (gx x) (wipeE e vs) m' = .ok e2 m' ∧ tt e2 m' = .ok (p x) m2 ∧ Pre m' m2 ∧ (p x = true → ∃ m3, el e2 m2 = .ok (f x) m3 ∧ Pre m2 m3)) :
    ∃ m', eLc it tg tt el vs e m = .ok (.ref m1.length) m' ∧ Pre m1 m' ∧ m'[m1.length]? = some (.lst ((xs.filter p).map f)) := by
  obtain ⟨m', w1, w2, w3⟩ := lcL_grow (m0 := m1) gx p f hg xs [] (m1 ++ [.lst []]) h (Kp.pre .add) new_get (by simpa using hl)
  refine ⟨m', ?_, fun i c e => w2 i c e (by
    have := (List.getElem?_eq_some_iff.mp e).1
    simp; omega), by simpa using w3⟩
  unfold eLc
  rw [hit, v_bind, hds]
  dsimp only
  rw [w1]
theorem eqvStr (x y : Str) : PyData.eqv (.str x) (.str y) = decide (x = y) := by
  by_cases h : x = y
  · subst h; simp [PyData.eqv]
  · simp [PyData.eqv, h]
theorem v_eqS {m : Mem} {x y : Str} (hx : PyData.strOk x = true) (hy : PyData.strOk y = true) : dEq (.str x) (.str y) m = .ok (.bl (decide (x = y))) m := by
  unfold dEq
  rw [show toP m DEEP (.str x) = some (.str x) from rfl, show toP m DEEP (.str y) = some (.str y) from rfl]
  dsimp only
  rw [if_pos ⟨canS1 x hx, canS1 y hy⟩, eqvStr]
theorem boolsM : ∀ l : List Bool, boolsD (l.map D.bl) = some l
  | [] => rfl
  | b :: l => by
    show (boolsD (l.map D.bl)).map (b :: ·) = _
    rw [boolsM l]; rfl
theorem v_allB {n : Nat} {m : Mem} {l : List Bool} (h : m[n]? = some (.lst (l.map D.bl))) : bAll true [.ref n] m = .ok (.bl (l.all id)) m := by
  unfold bAll itemsD
  simp only [h, boolsM]
  rfl
theorem lcL_inv {tg : AG} {tt : AT} {el : AE} {gd : Gd} {env : Env'} {k : Nat} (Inv : List D → List D → Mem → Prop)
    (hs : ∀ d r acc m, Inv (d :: r) acc m → m[k]? = some (.lst acc) → gd.Ok m ∧ ∃ e2 x m2, tg d env m = .ok e2 m ∧ tt e2 m = .ok true m ∧ el e2 m = .ok x m2 ∧ m2[k]? = some (.lst acc) ∧ Inv r (acc ++ [x]) (m2.set k (.lst (acc ++ [x]))))
    (hf : ∀ acc m, Inv [] acc m → gd.Ok m) :
    ∀ (ds acc : List D) (m : Mem), Inv ds acc m → m[k]? = some (.lst acc) → acc.length + ds.length < 2 ^ 24 → ∃ acc' m', lcL tg tt el gd env k ds m = .ok () m' ∧ Inv [] acc' m' ∧ m'[k]? = some (.lst acc') ∧ acc'.length = acc.length + ds.length
  | [], acc, m, hi, hk, _ => by
    refine ⟨acc, m, ?_, hi, hk, by simp⟩
    unfold lcL
    rw [if_pos (hf acc m hi)]
  | d :: r, acc, m, hi, hk, hl => by
    obtain ⟨hg, e2, x, m2, h1, h2, h3, h4, h5⟩ := hs d r acc m hi hk
    obtain ⟨acc', m', w1, w2, w3, w4⟩ := lcL_inv Inv hs hf r (acc ++ [x]) (m2.set k (.lst (acc ++ [x]))) h5 (get_set h4) (by simp at hl ⊢; omega)
    refine ⟨acc', m', ?_, w2, w3, by rw [w4]; simp; omega⟩
    rw [show lcL tg tt el gd env k (d :: r) m = lcL tg tt el gd env k r (m2.set k (.lst (acc ++ [x]))) from by
      conv => lhs; unfold lcL
      rw [if_pos hg, h1]
      dsimp only
      rw [h2]
      dsimp only
      rw [if_pos rfl, h3]
      dsimp only
      rw [h4]
      dsimp only
      rw [if_pos (by show acc.length < 2 ^ 24; simp at hl; omega)]]
    exact w1
theorem lc_inv {it : AI} {tg : AG} {tt : AT} {el : AE} {gd : Gd} {vs : List Nat} {e : Env'} {m m1 : Mem} {ds : List D} (Inv : List D → List D → Mem → Prop) (hit : it e m = .ok (ds, gd) m1) (hl : ds.length < 2 ^ 24) (h0 : Inv ds [] (m1 ++ [.lst []]))
    (hs : ∀ d r acc m, Inv (d :: r) acc m → m[m1.length]? = some (.lst acc) → gd.Ok m ∧ ∃ e2 x m2, tg d (wipeE e vs) m = .ok e2 m ∧ tt e2 m = .ok true m ∧ el e2 m = .ok x m2 ∧ m2[m1.length]? = some (.lst acc) ∧ Inv r (acc ++ [x]) (m2.set m1.length (.lst (acc ++ [x]))))
    (hf : ∀ acc m, Inv [] acc m → gd.Ok m) :
    ∃ acc m', eLc it tg tt el vs e m = .ok (.ref m1.length) m' ∧ Inv [] acc m' ∧ m'[m1.length]? = some (.lst acc) ∧ acc.length = ds.length := by
  obtain ⟨acc, m', w1, w2, w3, w4⟩ := lcL_inv (env := wipeE e vs) Inv hs hf ds [] (m1 ++ [.lst []]) h0 new_get (by simpa using hl)
  refine ⟨acc, m', ?_, w2, w3, by simpa using w4⟩
  unfold eLc
  rw [hit, v_bind]
  dsimp only
  rw [w1]
theorem a_c {a : AE} {aa : AA} {e : Env'} {m m1 m2 : Mem} {x : D} {xs : List D} (h1 : a e m = .ok x m1) (h2 : aa e m1 = .ok xs m2) : aCons a aa e m = .ok (x :: xs) m2 := by rw [v_cons, h1, v_bind, h2, v_bind]
theorem e_op {f : F2} {a b : AE} {e : Env'} {m m1 m2 : Mem} {x y : D} {r : R D} (h1 : a e m = .ok x m1) (h2 : b e m1 = .ok y m2) (h3 : f x y m2 = r) : eOp f a b e m = r := by rw [v_op, h1, v_bind, h2, v_bind, h3]
theorem e_call {f : FL} {aa : AA} {e : Env'} {m m1 : Mem} {xs : List D} {r : R D} (h1 : aa e m = .ok xs m1) (h2 : f xs m1 = r) : eCall f aa e m = r := by rw [v_call, h1, v_bind, h2]
theorem s_asg {a : AE} {i : Nat} {e : Env'} {m m1 : Mem} {x : D} (h1 : a e m = .ok x m1) : sAsg a (gN i) e m = .nx (e.set i (some x)) m1 := by rw [v_asg, h1, v_o, v_gN, v_o]
theorem t_v {a : AE} {e : Env'} {m m1 : Mem} {b : Bool} (h : a e m = .ok (.bl b) m1) : tVal a e m = .ok b m1 := by rw [v_val, h, v_bind, v_asB]
theorem t_nt {t : AT} {e : Env'} {m m1 : Mem} {b : Bool} (h : t e m = .ok b m1) : tNt t e m = .ok (!b) m1 := by rw [v_nt, h, v_bind]
theorem t_anT {t u : AT} {e : Env'} {m m1 m2 : Mem} {b : Bool} (h : t e m = .ok true m1) (h2 : u e m1 = .ok b m2) : tAn t u e m = .ok b m2 := by rw [v_an, h, v_bind, if_pos rfl, h2]
theorem t_anF {t u : AT} {e : Env'} {m m1 : Mem} (h : t e m = .ok false m1) : tAn t u e m = .ok false m1 := by rw [v_an, h, v_bind, if_neg Bool.false_ne_true]
theorem t_orT {t u : AT} {e : Env'} {m m1 : Mem} (h : t e m = .ok true m1) : tOrr t u e m = .ok true m1 := by rw [v_or, h, v_bind, if_pos rfl]
theorem t_orF {t u : AT} {e : Env'} {m m1 m2 : Mem} {b : Bool} (h : t e m = .ok false m1) (h2 : u e m1 = .ok b m2) : tOrr t u e m = .ok b m2 := by rw [v_or, h, v_bind, if_neg Bool.false_ne_true, h2]
theorem s_ret {a : AE} {e : Env'} {m m1 : Mem} {x : D} (h : a e m = .ok x m1) : sRet a e m = .rt x m1 := by rw [v_ret, h, v_o]
theorem s_exp {a : AE} {e : Env'} {m m1 : Mem} {x : D} (h : a e m = .ok x m1) : sExp a e m = .nx e m1 := by rw [v_exp, h, v_o]
theorem e_mt {ty : D → Mem → Bool} {F : D → FL} {a : AE} {aa : AA} {e : Env'} {m m1 m2 : Mem} {x : D} {xs : List D} {r : R D} (h1 : a e m = .ok x m1) (ht : ty x m1 = true) (h2 : aa e m1 = .ok xs m2) (h3 : F x xs m2 = r) : eMt ty F a aa e m = r := by rw [w_mt, h1, v_bind, if_pos ht, h2, v_bind, h3]
theorem e_ifT {t : AT} {a b : AE} {e : Env'} {m m1 : Mem} (h : t e m = .ok true m1) : eIf t a b e m = a e m1 := by rw [v_if, h, v_bind, if_pos rfl]
theorem e_ifF {t : AT} {a b : AE} {e : Env'} {m m1 : Mem} (h : t e m = .ok false m1) : eIf t a b e m = b e m1 := by rw [v_if, h, v_bind, if_neg Bool.false_ne_true]
def Rn (o : O) (QR : D → Mem → Prop) (QN : Env' → Mem → Prop) : Prop := match o with
  | .rt d m => QR d m
  | .nx e m => QN e m
  | _ => False
theorem rn_seq {o : O} {s : AS} {QR : D → Mem → Prop} {QN : Env' → Mem → Prop} (h : Rn o QR fun e m => Rn (s e m) QR QN) : Rn (o.seq s) QR QN := by cases o <;> first | exact h | exact h.elim
theorem rn_f {o : O} {s : AS} {Q : D → Mem → Prop} (h : Rn o Q fun e m => Ok (s e m).f Q) : Ok (o.seq s).f Q := by cases o <;> first | exact h | exact h.elim
theorem rn_mono {o : O} {QR QR' : D → Mem → Prop} {QN QN' : Env' → Mem → Prop} (h : Rn o QR QN) (k1 : ∀ d m, QR d m → QR' d m) (k2 : ∀ e m, QN e m → QN' e m) : Rn o QR' QN' := by cases o <;> first | exact k1 _ _ h | exact k2 _ _ h | exact h.elim
theorem forL_rn {tg : AG} {b : AS} {gd : Gd} {QR : D → Mem → Prop} (Inv : List D → Env' → Mem → Prop) (hs : ∀ d r e m, Inv (d :: r) e m → gd.Ok m ∧ ∃ e2, tg d e m = .ok e2 m ∧ Rn (b e2 m) QR (Inv r)) (hf : ∀ e m, Inv [] e m → gd.Ok m) :
    ∀ (ds : List D) (e : Env') (m : Mem), Inv ds e m → Rn (forL tg b gd ds e m) QR (Inv [])
  | [], e, m, h => by
    unfold forL
    rw [if_pos (hf e m h)]
    exact h
  | d :: r, e, m, h => by
    obtain ⟨h1, e2, h2, h3⟩ := hs d r e m h
    unfold forL
    rw [if_pos h1, h2]
    show Rn (match b e2 m with | .nx e m => forL tg b gd r e m | .ct e m => forL tg b gd r e m | .bk e m => .nx e m | .rt d m => .rt d m | .er x e m => .er x e m | .no => .no) _ _
    cases h4 : b e2 m with
    | nx e3 m3 => rw [h4] at h3; exact forL_rn Inv hs hf r e3 m3 h3
    | rt e3 m3 => rw [h4] at h3; exact h3
    | _ => rw [h4] at h3; exact h3.elim
end Cl
set_option Elab.async false
set_option linter.all false
set_option maxRecDepth 100000
/-! # pure evaluations: a fixed answer, whatever the memory holds; only new cells -/
namespace Cl
open PySem PySem.Spec PyProof.Rows L2 Ab
def Ev (e : Env') (a : AE) (d : D) : Prop := ∀ m, ∃ m', a e m = .ok d m' ∧ Pre m m'
def EvA (e : Env') (a : AA) (ds : List D) : Prop := ∀ m, ∃ m', a e m = .ok ds m' ∧ Pre m m'
/-- a new list of these items -/
def EvL (e : Env') (a : AE) (ds : List D) : Prop := ∀ m, ∃ n m', a e m = .ok (.ref n) m' ∧ Pre m m' ∧ m'[n]? = some (.lst ds) ∧ m.length ≤ n
def Et (e : Env') (t : AT) (b : Bool) : Prop := ∀ m, ∃ m', t e m = .ok b m' ∧ Pre m m'
def Eo (e : Env') (a : AO) (i : Option Int) : Prop := ∀ m, ∃ m', a e m = .ok i m' ∧ Pre m m'
def SN (e : Env') (s : AS) (e' : Env') : Prop := ∀ m, ∃ m', s e m = .nx e' m' ∧ Pre m m'
def SR (e : Env') (s : AS) (d : D) : Prop := ∀ m, ∃ m', s e m = .rt d m' ∧ Pre m m'
/-- a def -/
def Fn (f : AF) (ds : List D) (d : D) : Prop := ∀ m, ∃ m', f ds m = .ok d m' ∧ Pre m m'
/-- what is walked -/
def EI (e : Env') (it : AI) (ds : List D) : Prop := ∀ m, ∃ gd m', it e m = .ok (ds, gd) m' ∧ Pre m m' ∧ ∀ m2, Pre m' m2 → gd.Ok m2
section
variable {e e1 e2 : Env'} {a b c : AE} {aa : AA} {t u : AT} {s s' : AS} {d x y z : D} {ds es xs : List D} {k l : Bool} {f f' : F2} {i j : Nat}
theorem ev_c : Ev e (eC d) d := fun m => ⟨m, rfl, .refl⟩
theorem ev_v (i : Nat) (h : e[i]? = some (some d) := by rfl) : Ev e (eVar i) d := fun m => ⟨m, v_var h, .refl⟩
theorem ev_op (ha : Ev e a x) (hb : Ev e b y) (hf : ∀ m, ∃ m', f x y m = .ok z m' ∧ Pre m m') : Ev e (eOp f a b) z := fun m => by
  obtain ⟨m1, h1, p1⟩ := ha m
  obtain ⟨m2, h2, p2⟩ := hb m1
  obtain ⟨m3, h3, p3⟩ := hf m2
  exact ⟨m3, e_op h1 h2 h3, p1.trans (p2.trans p3)⟩
theorem ev_op0 (ha : Ev e a x) (hb : Ev e b y) (hf : ∀ m, f x y m = .ok z m) : Ev e (eOp f a b) z := ev_op ha hb fun m => ⟨m, hf m, .refl⟩
theorem ev_un {f1 : F1} (ha : Ev e a x) (hf : ∀ m, f1 x m = .ok z m) : Ev e (eUn f1 a) z := fun m => by
  obtain ⟨m1, h1, p1⟩ := ha m
  exact ⟨m1, by rw [v_un, h1, v_bind, hf], p1⟩
theorem ea_nil : EvA e aNil [] := fun m => ⟨m, rfl, .refl⟩
theorem ea_c (ha : Ev e a x) (hb : EvA e aa xs) : EvA e (aCons a aa) (x :: xs) := fun m => by
  obtain ⟨m1, h1, p1⟩ := ha m
  obtain ⟨m2, h2, p2⟩ := hb m1
  exact ⟨m2, a_c h1 h2, p1.trans p2⟩
theorem ev_call {fl : FL} (ha : EvA e aa xs) (hf : ∀ m, ∃ m', fl xs m = .ok z m' ∧ Pre m m') : Ev e (eCall fl aa) z := fun m => by
  obtain ⟨m1, h1, p1⟩ := ha m
  obtain ⟨m2, h2, p2⟩ := hf m1
  exact ⟨m2, e_call h1 h2, p1.trans p2⟩
theorem ev_call0 {fl : FL} (ha : EvA e aa xs) (hf : ∀ m, fl xs m = .ok z m) : Ev e (eCall fl aa) z := ev_call ha fun m => ⟨m, hf m, .refl⟩
theorem ev_fn {fl : AF} (ha : EvA e aa xs) (hf : Fn fl xs z) : Ev e (eCall fl aa) z := ev_call ha hf
theorem ev_tup (ha : EvA e aa xs) (hl : xs.length ≤ sizeLine) : Ev e (eCall mkTup aa) (.tup xs) := ev_call0 ha fun m => v_tup hl
theorem ev_lst (ha : EvA e aa xs) (hl : xs.length ≤ sizeLine) : EvL e (eCall mkLst aa) xs := fun m => by
  obtain ⟨m1, h1, p1⟩ := ha m
  exact ⟨m1.length, m1 ++ [.lst xs], e_call h1 (v_lst hl), p1.trans .add, new_get, p1.len⟩
theorem ev_ifT (ht : Et e t true) (ha : Ev e a x) : Ev e (eIf t a b) x := fun m => by
  obtain ⟨m1, h1, p1⟩ := ht m
  obtain ⟨m2, h2, p2⟩ := ha m1
  exact ⟨m2, by rw [e_ifT h1, h2], p1.trans p2⟩
theorem ev_ifF (ht : Et e t false) (ha : Ev e b x) : Ev e (eIf t a b) x := fun m => by
  obtain ⟨m1, h1, p1⟩ := ht m
  obtain ⟨m2, h2, p2⟩ := ha m1
  exact ⟨m2, by rw [e_ifF h1, h2], p1.trans p2⟩
theorem ev_if (ht : Et e t k) (h1 : k = true → Ev e a x) (h2 : k = false → Ev e b x) : Ev e (eIf t a b) x := by
  cases k with
  | true => exact ev_ifT ht (h1 rfl)
  | false => exact ev_ifF ht (h2 rfl)
theorem et_v (ha : Ev e a (.bl k)) : Et e (tVal a) k := fun m => by
  obtain ⟨m1, h1, p1⟩ := ha m
  exact ⟨m1, t_v h1, p1⟩
theorem et_tru (ha : Ev e a x) (h : ∀ m, truD x m = some k) : Et e (tTru a) k := fun m => by
  obtain ⟨m1, h1, p1⟩ := ha m
  refine ⟨m1, ?_, p1⟩
  unfold tTru
  rw [h1, v_bind, h]
theorem et_nt (ha : Et e t k) : Et e (tNt t) (!k) := fun m => by
  obtain ⟨m1, h1, p1⟩ := ha m
  exact ⟨m1, t_nt h1, p1⟩
theorem et_an (ha : Et e t k) (hb : k = true → Et e u l) : Et e (tAn t u) (k && l) := fun m => by
  obtain ⟨m1, h1, p1⟩ := ha m
  cases k with
  | false => exact ⟨m1, t_anF h1, p1⟩
  | true =>
    obtain ⟨m2, h2, p2⟩ := hb rfl m1
    exact ⟨m2, t_anT h1 h2, p1.trans p2⟩
theorem et_or (ha : Et e t k) (hb : k = false → Et e u l) : Et e (tOrr t u) (k || l) := fun m => by
  obtain ⟨m1, h1, p1⟩ := ha m
  cases k with
  | true => exact ⟨m1, t_orT h1, p1⟩
  | false =>
    obtain ⟨m2, h2, p2⟩ := hb rfl m1
    exact ⟨m2, t_orF h1 h2, p1.trans p2⟩
theorem ev_and (ha : Ev e a (.bl k)) (hb : k = true → Ev e b (.bl l)) : Ev e (eAnd a b) (.bl (k && l)) := fun m => by
  obtain ⟨m1, h1, p1⟩ := ha m
  cases k with
  | false => exact ⟨m1, by rw [v_eand, h1, v_bind, v_asB, v_bind, if_neg Bool.false_ne_true]; rfl, p1⟩
  | true =>
    obtain ⟨m2, h2, p2⟩ := hb rfl m1
    exact ⟨m2, by rw [v_eand, h1, v_bind, v_asB, v_bind, if_pos rfl, h2]; rfl, p1.trans p2⟩
theorem ev_or (ha : Ev e a (.bl k)) (hb : k = false → Ev e b (.bl l)) : Ev e (eOr a b) (.bl (k || l)) := fun m => by
  obtain ⟨m1, h1, p1⟩ := ha m
  cases k with
  | true => exact ⟨m1, by rw [v_eor, h1, v_bind, v_asB, v_bind, if_pos rfl]; rfl, p1⟩
  | false =>
    obtain ⟨m2, h2, p2⟩ := hb rfl m1
    exact ⟨m2, by rw [v_eor, h1, v_bind, v_asB, v_bind, if_neg Bool.false_ne_true, h2]; rfl, p1.trans p2⟩
theorem ev_not (ha : Ev e a (.bl k)) : Ev e (eNot a) (.bl (!k)) := fun m => by
  obtain ⟨m1, h1, p1⟩ := ha m
  exact ⟨m1, by rw [v_enot, h1, v_bind, v_asB, v_bind], p1⟩
theorem ev_chain (ha : Ev e a x) (hb : Ev e b y) (h1 : ∀ m, f x y m = .ok (.bl k) m) (hc : Ev e c z) (h2 : ∀ m, f' y z m = .ok (.bl l) m) : Ev e (eChain f f' a b c) (.bl (k && l)) := fun m => by
  obtain ⟨m1, e1, p1⟩ := ha m
  obtain ⟨m2, e2, p2⟩ := hb m1
  cases k with
  | false => exact ⟨m2, by rw [v_chain, e1, v_bind, e2, v_bind, h1, v_bind, v_asB, v_bind, if_neg Bool.false_ne_true]; rfl, p1.trans p2⟩
  | true =>
    obtain ⟨m3, e3, p3⟩ := hc m2
    exact ⟨m3, by rw [v_chain, e1, v_bind, e2, v_bind, h1, v_bind, v_asB, v_bind, if_pos rfl, e3, v_bind, h2]; rfl, p1.trans (p2.trans p3)⟩
theorem ev_isi {T tn : String} (ha : Ev e a x) (ht : ∀ m, tyN x m = some tn) (hk : kitB tn T = some k) : Ev e (eIsi T a) (.bl k) := fun m => by
  obtain ⟨m1, h1, p1⟩ := ha m
  refine ⟨m1, ?_, p1⟩
  rw [v_isi, h1, v_bind, ht]
  dsimp only
  rw [hk]
theorem ev_ix {n : Int} (ha : Ev e a (.tup ds)) (hb : Ev e b (.int n)) (h : atI ds n = some d) : Ev e (eOp dIx a b) d := ev_op0 ha hb fun m => v_ixT h
theorem eo_n : Eo e oNone none := fun m => ⟨m, rfl, .refl⟩
theorem eo_s {n : Int} (ha : Ev e a (.int n)) : Eo e (oSome a) (some n) := fun m => by
  obtain ⟨m1, h1, p1⟩ := ha m
  exact ⟨m1, by rw [w_oS, h1, v_bind], p1⟩
theorem ev_sl {lo hi : AO} {p q : Option Int} (ha : Ev e a (.tup ds)) (hl : Eo e lo p) (hh : Eo e hi q) : Ev e (eSl a lo hi) (.tup (Ab.cutD ds p q)) := fun m => by
  obtain ⟨m1, h1, p1⟩ := ha m
  obtain ⟨m2, h2, p2⟩ := hl m1
  obtain ⟨m3, h3, p3⟩ := hh m2
  exact ⟨m3, by rw [w_sl, h1, v_bind, h2, v_bind, h3, v_bind, v_slT], p1.trans (p2.trans p3)⟩
/-! statements -/
theorem sn_asg (ha : Ev e a x) : SN e (sAsg a (gN i)) (e.set i (some x)) := fun m => by
  obtain ⟨m1, h1, p1⟩ := ha m
  exact ⟨m1, s_asg h1, p1⟩
theorem sr_ret (ha : Ev e a x) : SR e (sRet a) x := fun m => by
  obtain ⟨m1, h1, p1⟩ := ha m
  exact ⟨m1, s_ret h1, p1⟩
theorem sr_seq (h1 : SN e s e1) (h2 : SR e1 s' d) : SR e (sSeq s s') d := fun m => by
  obtain ⟨m1, q1, p1⟩ := h1 m
  obtain ⟨m2, q2, p2⟩ := h2 m1
  exact ⟨m2, by rw [v_seq, q1, v_nx, q2], p1.trans p2⟩
theorem sn_seq (h1 : SN e s e1) (h2 : SN e1 s' e2) : SN e (sSeq s s') e2 := fun m => by
  obtain ⟨m1, q1, p1⟩ := h1 m
  obtain ⟨m2, q2, p2⟩ := h2 m1
  exact ⟨m2, by rw [v_seq, q1, v_nx, q2], p1.trans p2⟩
theorem sr_seqR (h1 : SR e s d) : SR e (sSeq s s') d := fun m => by
  obtain ⟨m1, q1, p1⟩ := h1 m
  exact ⟨m1, by rw [v_seq, q1, v_rt], p1⟩
theorem sr_ifT (ht : Et e t true) (h : SR e s d) : SR e (sIf t s s') d := fun m => by
  obtain ⟨m1, h1, p1⟩ := ht m
  obtain ⟨m2, h2, p2⟩ := h m1
  exact ⟨m2, by rw [v_sif, h1, v_o, if_pos rfl, h2], p1.trans p2⟩
theorem sr_ifF (ht : Et e t false) (h : SR e s' d) : SR e (sIf t s s') d := fun m => by
  obtain ⟨m1, h1, p1⟩ := ht m
  obtain ⟨m2, h2, p2⟩ := h m1
  exact ⟨m2, by rw [v_sif, h1, v_o, if_neg Bool.false_ne_true, h2], p1.trans p2⟩
theorem sn_ifT (ht : Et e t true) (h : SN e s e1) : SN e (sIf t s s') e1 := fun m => by
  obtain ⟨m1, h1, p1⟩ := ht m
  obtain ⟨m2, h2, p2⟩ := h m1
  exact ⟨m2, by rw [v_sif, h1, v_o, if_pos rfl, h2], p1.trans p2⟩
theorem sn_ifF (ht : Et e t false) (h : SN e s' e1) : SN e (sIf t s s') e1 := fun m => by
  obtain ⟨m1, h1, p1⟩ := ht m
  obtain ⟨m2, h2, p2⟩ := h m1
  exact ⟨m2, by rw [v_sif, h1, v_o, if_neg Bool.false_ne_true, h2], p1.trans p2⟩
theorem sn_skip : SN e sSkip e := fun m => ⟨m, rfl, .refl⟩
theorem sn_aug {g : Int → Int → Int} {n p : Int} (hi : e[i]? = some (some (.int n))) (ha : Ev e a (.int p)) : SN e (sAug i g a) (e.set i (some (.int (g n p)))) := fun m => by
  obtain ⟨m1, h1, p1⟩ := ha m
  refine ⟨m1, ?_, p1⟩
  unfold sAug
  rw [hi]
  dsimp only
  rw [h1]
  rfl
theorem sn_par2 (ha : EvA e aa [x, y]) : SN e (sPar2 i j aa) ((e.set i (some x)).set j (some y)) := fun m => by
  obtain ⟨m1, h1, p1⟩ := ha m
  refine ⟨m1, ?_, p1⟩
  unfold sPar2
  rw [h1, v_o]
theorem sn_exp (ha : Ev e a x) : SN e (sExp a) e := fun m => by
  obtain ⟨m1, h1, p1⟩ := ha m
  exact ⟨m1, s_exp h1, p1⟩
/-- a def by its body -/
theorem fn_of {n : Nat} {as : AS} (h : SR (ds.map some ++ List.replicate (n - ds.length) none) as d) : Fn (afOf n as) ds d := fun m => by
  obtain ⟨m1, h1, p1⟩ := h m
  exact ⟨m1, by unfold afOf; rw [h1]; rfl, p1⟩
/-! walks -/
theorem ei_tup (ha : Ev e a (.tup ds)) : EI e (iE a) ds := fun m => by
  obtain ⟨m1, h1, p1⟩ := ha m
  exact ⟨[], m1, by rw [w_iE, h1, v_bind]; rfl, p1, fun _ _ => gd_nil⟩
theorem ei_lst (ha : EvL e a ds) : EI e (iE a) ds := fun m => by
  obtain ⟨n, m1, h1, p1, h2, _⟩ := ha m
  refine ⟨[(n, .lst ds)], m1, by rw [w_iE, h1, v_bind]; unfold itD; simp only [h2], p1, fun m2 p2 q hq => ?_⟩
  rw [List.mem_singleton] at hq
  subst hq
  exact p2 _ _ h2
/-- a loop: what the walked items make of the slots -/
theorem sn_for {it : AI} {tg : AG} {E : List D → Env' → Prop} (hi : EI e it ds) (h0 : E ds e) (hs : ∀ d r e, E (d :: r) e → ∃ e2, (∀ m, tg d e m = .ok e2 m) ∧ ∃ e3, SN e2 s e3 ∧ E r e3) : ∃ e', SN e (sFor it tg s) e' ∧ E [] e' := by
  have key : ∀ (ds : List D) (e : Env'), E ds e → ∃ e', E [] e' ∧ ∀ (gd : Gd) (m : Mem), (∀ m2, Pre m m2 → gd.Ok m2) → ∃ m', forL tg s gd ds e m = .nx e' m' ∧ Pre m m' := by
    intro ds
    induction ds with
    | nil => exact fun e h => ⟨e, h, fun gd m hg => ⟨m, forL_nil (hg m .refl), .refl⟩⟩
    | cons d r ih =>
      intro e h
      obtain ⟨e2, h2, e3, h3, h4⟩ := hs d r e h
      obtain ⟨e', h5, h6⟩ := ih e3 h4
      refine ⟨e', h5, fun gd m hg => ?_⟩
      obtain ⟨m1, q1, p1⟩ := h3 m
      obtain ⟨m2, q2, p2⟩ := h6 gd m1 fun m2 p => hg m2 (p1.trans p)
      exact ⟨m2, by rw [forL_nx (hg m .refl) (h2 m) q1, q2], p1.trans p2⟩
  obtain ⟨e', h1, h2⟩ := key ds e h0
  refine ⟨e', fun m => ?_, h1⟩
  obtain ⟨gd, m1, q1, p1, hg⟩ := hi m
  obtain ⟨m2, q2, p2⟩ := h2 gd m1 hg
  exact ⟨m2, by rw [w_for, q1, v_o]; exact q2, p1.trans p2⟩
/-- a comprehension -/
theorem ev_lc {it : AI} {tg : AG} {tt : AT} {el : AE} {vs : List Nat} {α : Type} (gx : α → D) (xs : List α) (p : α → Bool) (g : α → D) (hi : EI e it (xs.map gx)) (hl : xs.length < 2 ^ 24)
    (hs : ∀ x ∈ xs, ∃ e2, (∀ m, tg (gx x) (wipeE e vs) m = .ok e2 m) ∧ Et e2 tt (p x) ∧ (p x = true → Ev e2 el (g x))) : EvL e (eLc it tg tt el vs) ((xs.filter p).map g) := fun m => by
  obtain ⟨gd, m1, q1, p1, hg⟩ := hi m
  have key : ∀ (ys : List α) (acc : List D) (mm : Mem), (∀ x ∈ ys, x ∈ xs) → acc.length + ys.length < 2 ^ 24 → mm[m1.length]? = some (.lst acc) → Pre m1 mm →
      ∃ m', lcL tg tt el gd (wipeE e vs) m1.length (ys.map gx) mm = .ok () m' ∧ Pre m1 m' ∧ m'[m1.length]? = some (.lst (acc ++ (ys.filter p).map g)) := by
    intro ys
    induction ys with
    | nil =>
      intro acc mm hy hlen hk hp
      refine ⟨mm, ?_, hp, by simpa using hk⟩
      show lcL tg tt el gd (wipeE e vs) m1.length [] mm = _
      unfold lcL
      rw [if_pos (hg mm hp)]
    | cons x r ih =>
      intro acc mm hy hlen hk hp
      obtain ⟨e2, h2, h3, h4⟩ := hs x (hy x List.mem_cons_self)
      rw [List.map_cons]
      unfold lcL
      rw [if_pos (hg mm hp), h2]
      dsimp only
      obtain ⟨m2, w2, pr2⟩ := h3 mm
      rw [w2]
      dsimp only
      have hp2 : Pre m1 m2 := hp.trans pr2
      have hlen2 : acc.length + r.length < 2 ^ 24 := by rw [List.length_cons] at hlen; omega
      cases hpx : p x with
      | false =>
        rw [if_neg Bool.false_ne_true]
        obtain ⟨m', q1, q2, q3⟩ := ih acc m2 (fun y hy' => hy y (List.mem_cons_of_mem _ hy')) hlen2 (pr2 _ _ hk) hp2
        exact ⟨m', q1, q2, by rw [q3, List.filter_cons, hpx, if_neg Bool.false_ne_true]⟩
      | true =>
        rw [if_pos rfl]
        obtain ⟨m3, w3, pr3⟩ := h4 hpx m2
        rw [w3]
        dsimp only
        rw [pr3 _ _ (pr2 _ _ hk)]
        dsimp only
        rw [if_pos (by show acc.length < 2 ^ 24; rw [List.length_cons] at hlen; omega)]
        have hp3 : Pre m1 (m3.set m1.length (.lst (acc ++ [g x]))) := fun i c z => by rw [List.getElem?_set_ne (Nat.ne_of_gt (List.getElem?_eq_some_iff.mp z).1)]; exact pr3 i c (hp2 i c z)
        obtain ⟨m', q1, q2, q3⟩ := ih (acc ++ [g x]) (m3.set m1.length (.lst (acc ++ [g x]))) (fun y hy' => hy y (List.mem_cons_of_mem _ hy')) (by rw [List.length_append, List.length_singleton]; rw [List.length_cons] at hlen; omega) (get_set (pr3 _ _ (pr2 _ _ hk))) hp3
        exact ⟨m', q1, q2, by rw [q3, List.filter_cons, hpx, if_pos rfl, List.map_cons, List.append_assoc]; rfl⟩
  obtain ⟨m', w1, w2, w3⟩ := key xs [] (m1 ++ [.lst []]) (fun x h => h) (by simpa using hl) new_get .add
  refine ⟨m1.length, m', ?_, p1.trans w2, by simpa using w3, p1.len⟩
  unfold eLc
  rw [q1, v_bind]
  dsimp only
  rw [w1]
theorem ev_lc0 {it : AI} {tg : AG} {el : AE} {vs : List Nat} {α : Type} (gx : α → D) (xs : List α) (g : α → D) (hi : EI e it (xs.map gx)) (hl : xs.length < 2 ^ 24)
    (hs : ∀ x ∈ xs, ∃ e2, (∀ m, tg (gx x) (wipeE e vs) m = .ok e2 m) ∧ Ev e2 el (g x)) : EvL e (eLc it tg tYesA el vs) (xs.map g) := by
  have := ev_lc (vs := vs) (tg := tg) (tt := tYesA) (el := el) gx xs (fun _ => true) g hi hl fun x hx => by
    obtain ⟨e2, h1, h2⟩ := hs x hx
    exact ⟨e2, h1, fun m => ⟨m, rfl, .refl⟩, fun _ => h2⟩
  rwa [List.filter_eq_self.mpr (fun _ _ => rfl)] at this
/-! lists used at once -/
/-- a call on a new list -/
theorem ev_L {fl : FL} (ha : EvL e a ds) (hf : ∀ m n, m[n]? = some (.lst ds) → ∃ m', fl [.ref n] m = .ok z m' ∧ Pre m m') : Ev e (eCall fl (aCons a aNil)) z := fun m => by
  obtain ⟨n, m1, h1, p1, h2, _⟩ := ha m
  obtain ⟨m2, h3, p3⟩ := hf m1 n h2
  exact ⟨m2, e_call (a_c h1 rfl) h3, p1.trans p3⟩
theorem ev_all {bs : List Bool} (ha : EvL e a (bs.map D.bl)) : Ev e (eCall (bAll true) (aCons a aNil)) (.bl (bs.all id)) := ev_L ha fun m n h => ⟨m, v_allB h, .refl⟩
theorem ev_tupL (ha : EvL e a ds) : Ev e (eCall bTuple (aCons a aNil)) (.tup ds) := ev_L ha fun m n h => ⟨m, by unfold bTuple itemsD; simp only [h], .refl⟩
theorem v_sumL {n : Nat} {m : Mem} {ns : List Int} (h : m[n]? = some (.lst (ns.map D.int))) : bSumB [.ref n] m = .ok (.int ns.sum) m := by
  unfold bSumB
  unfold bSum itemsD
  simp only [h, Ab.intsD_map]
theorem ev_sum {ns : List Int} (ha : EvL e a (ns.map D.int)) : Ev e (eCall bSumB (aCons a aNil)) (.int ns.sum) := ev_L ha fun m n h => ⟨m, v_sumL h, .refl⟩
theorem ev_opL (ha : Ev e a x) (hb : EvL e b ds) (hf : ∀ m n, m[n]? = some (.lst ds) → f x (.ref n) m = .ok z m) : Ev e (eOp f a b) z := fun m => by
  obtain ⟨m1, h1, p1⟩ := ha m
  obtain ⟨n, m2, h2, p2, h3, _⟩ := hb m1
  exact ⟨m2, e_op h1 h2 (hf m2 n h3), p1.trans p2⟩
theorem ev_ixL {n : Int} (ha : EvL e a ds) (hb : Ev e b (.int n)) (h : atI ds n = some d) : Ev e (eOp dIx a b) d := fun m => by
  obtain ⟨k, m1, h1, p1, h2, _⟩ := ha m
  obtain ⟨m2, h3, p3⟩ := hb m1
  exact ⟨m2, e_op h1 h3 (v_ixL (p3 _ _ h2) h), p1.trans p3⟩
theorem et_nop {b : Bool} (h : Et e t b) (hb : b = k) : Et e t k := hb ▸ h
end
/-! exact steps -/
theorem s_seq {s s' : AS} {e e1 : Env'} {m m1 : Mem} {o : O} (h1 : s e m = .nx e1 m1) (h2 : s' e1 m1 = o) : sSeq s s' e m = o := by rw [v_seq, h1, v_nx, h2]
theorem s_seqR {s s' : AS} {e : Env'} {m m1 : Mem} {d : D} (h1 : s e m = .rt d m1) : sSeq s s' e m = .rt d m1 := by rw [v_seq, h1, v_rt]
theorem s_ifT {t : AT} {s s' : AS} {e : Env'} {m m1 : Mem} {o : O} (h1 : t e m = .ok true m1) (h2 : s e m1 = o) : sIf t s s' e m = o := by rw [v_sif, h1, v_o, if_pos rfl, h2]
theorem s_ifF {t : AT} {s s' : AS} {e : Env'} {m m1 : Mem} {o : O} (h1 : t e m = .ok false m1) (h2 : s' e m1 = o) : sIf t s s' e m = o := by rw [v_sif, h1, v_o, if_neg Bool.false_ne_true, h2]
theorem s_if {t : AT} {s s' : AS} {e : Env'} {m m1 : Mem} {o : O} {k : Bool} (h1 : t e m = .ok k m1) (h2 : k = true → s e m1 = o) (h3 : k = false → s' e m1 = o) : sIf t s s' e m = o := by
  cases k with
  | true => exact s_ifT h1 (h2 rfl)
  | false => exact s_ifF h1 (h3 rfl)
theorem af_rt {n : Nat} {as : AS} {ds : List D} {m m' : Mem} {d : D} {E : Env'} (hE : ds.map some ++ List.replicate (n - ds.length) none = E) (h : as E m = .rt d m') : afOf n as ds m = .ok d m' := by
  unfold afOf; rw [hE, h]; rfl
theorem af_nx {n : Nat} {as : AS} {ds : List D} {m m' : Mem} {E E' : Env'} (hE : ds.map some ++ List.replicate (n - ds.length) none = E) (h : as E m = .nx E' m') : afOf n as ds m = .ok .non m' := by
  unfold afOf; rw [hE, h]; rfl
theorem e_un {f1 : F1} {a : AE} {e : Env'} {m m1 : Mem} {x : D} {r : R D} (h1 : a e m = .ok x m1) (h2 : f1 x m1 = r) : eUn f1 a e m = r := by rw [v_un, h1, v_bind, h2]
theorem e_not {a : AE} {e : Env'} {m m1 : Mem} {b : Bool} (h : a e m = .ok (.bl b) m1) : eNot a e m = .ok (.bl (!b)) m1 := by rw [v_enot, h, v_bind, v_asB, v_bind]
theorem t_tru {a : AE} {e : Env'} {m m1 : Mem} {d : D} {b : Bool} (h : a e m = .ok d m1) (ht : truD d m1 = some b) : tTru a e m = .ok b m1 := by unfold tTru; rw [h, v_bind, ht]
theorem s_fldS {c f : Str} {o v : AE} {e : Env'} {m m1 m2 : Mem} {n : Nat} {d : D} {fs : List (Str × D)} (h1 : v e m = .ok d m1) (h2 : o e m1 = .ok (.ref n) m2) (h3 : m2[n]? = some (.ins c fs)) (hl : fs.length < 1000) : sFldS c f o v e m = .nx e (m2.set n (.ins c (putFD f d fs))) := by
  unfold sFldS
  rw [h1, v_o, h2, v_o]
  dsimp only
  rw [h3]
  dsimp only
  rw [if_pos ⟨rfl, hl⟩]
theorem s_expD {a : AE} {e : Env'} {m m1 : Mem} {x : D} (h : a e m = .ok x m1) : sExp a e m = .nx e m1 := s_exp h
theorem s_par2 {aa : AA} {i j : Nat} {e : Env'} {m m1 : Mem} {x y : D} (h : aa e m = .ok [x, y] m1) : sPar2 i j aa e m = .nx ((e.set i (some x)).set j (some y)) m1 := by
  unfold sPar2; rw [h, v_o]
theorem s_par3 {aa : AA} {i j k : Nat} {e : Env'} {m m1 : Mem} {x y z : D} (h : aa e m = .ok [x, y, z] m1) : sPar3 i j k aa e m = .nx (((e.set i (some x)).set j (some y)).set k (some z)) m1 := by
  unfold sPar3; rw [h, v_o]
theorem e_mk {c : Str} {F : AF} {aa : AA} {e : Env'} {m m1 m2 : Mem} {ds : List D} (h1 : aa e m = .ok ds m1) (h2 : F (.ref m1.length :: ds) (m1 ++ [.ins c []]) = .ok .non m2) : eMk c F aa e m = .ok (.ref m1.length) m2 := by
  unfold eMk; rw [h1, v_bind, h2]
end Cl
set_option Elab.async false
set_option linter.all false
/-! # books, plans, runs: the mathematics (no Python here) -/
namespace Bk
inductive Stm where
  | set (c : Nat) (s : List Int) | say (s : List Int) | call (r : Nat)
  | ifs (w : Bool) (a b : List Int) (x y : List Stm) | whl (w : Bool) (a b : List Int) (x : List Stm)
mutual
def szS : Stm → Nat
  | .ifs _ _ _ x y => 2 + szB x + szB y
  | .whl _ _ _ x => 1 + szB x
  | .set _ _ => 1
  | .say _ => 1
  | .call _ => 1
def szB : List Stm → Nat
  | [] => 0
  | s :: r => szS s + szB r
end
mutual
/-- how deep the bodies within go -/
def dpS : Stm → Nat
  | .ifs _ _ _ x y => max (dpB x) (dpB y)
  | .whl _ _ _ x => dpB x
  | .set _ _ => 0
  | .say _ => 0
  | .call _ => 0
def dpB : List Stm → Nat
  | [] => 1
  | s :: r => max (1 + dpS s) (dpB r)
end
def okSum (C : Nat) (s : List Int) : Prop := s.length = C + 1 ∧ ∀ i ∈ s, -1000 ≤ i ∧ i ≤ 1000
mutual
def okS (C R : Nat) : Stm → Prop
  | .ifs _ a b x y => okSum C a ∧ okSum C b ∧ okB C R x ∧ okB C R y
  | .whl _ a b x => okSum C a ∧ okSum C b ∧ okB C R x
  | .set c s => c < C ∧ okSum C s
  | .say s => okSum C s
  | .call r => r < R
def okB (C R : Nat) : List Stm → Prop
  | [] => True
  | s :: r => okS C R s ∧ okB C R r
end
theorem szB_app : ∀ a b : List Stm, szB (a ++ b) = szB a + szB b
  | [], b => by simp [szB]
  | s :: a, b => by simp [szB, szB_app a b]; omega
theorem okB_app {C R : Nat} : ∀ a b : List Stm, okB C R (a ++ b) ↔ okB C R a ∧ okB C R b
  | [], b => by simp [okB]
  | s :: a, b => by simp [okB, okB_app a b, and_assoc]
theorem okB_mem {C R : Nat} : ∀ {a : List Stm} {s : Stm}, okB C R a → s ∈ a → okS C R s
  | s :: a, t, h, hm => by
    rcases List.mem_cons.mp hm with rfl | hm
    · exact h.1
    · exact okB_mem h.2 hm
theorem dpB_pos : ∀ a : List Stm, 1 ≤ dpB a
  | [] => by simp [dpB]
  | s :: a => by simp [dpB]; omega
theorem dpB_app : ∀ a b : List Stm, dpB (a ++ b) = max (dpB a) (dpB b)
  | [], b => by have := dpB_pos b; simp [dpB]; omega
  | s :: a, b => by simp [dpB, dpB_app a b, Nat.max_assoc]
/-! ### sums, tests -/
def val (s vs : List Int) : Int := ((s.zip vs).map fun p => p.1 * p.2).sum + s.getLastD 0
def tst (w : Bool) (a b vs : List Int) : Bool := if w then decide (val a vs < val b vs) else decide (val a vs = val b vs)
/-! ### the run by the text: a stack of what is left -/
inductive Fe where
  | bg | jn | en | st (s : Stm)
structure Cfg where
  vals : List Int
  said : List Int
  stk : List Fe
  still : Nat
def nxt (rs : List (List Stm)) (c : Cfg) : Cfg := match c.stk with
  | [] => c
  | .bg :: k => { c with stk := k }
  | .jn :: k => { c with stk := k }
  | .en :: k => { c with stk := k, still := c.still - 1 }
  | .st (.set i s) :: k => { c with vals := c.vals.set i (val s c.vals), stk := k }
  | .st (.say s) :: k => { c with said := c.said ++ [val s c.vals], stk := k }
  | .st (.call r) :: k => { c with stk := .bg :: ((rs.getD r []).map .st ++ .en :: k), still := c.still + 1 }
  | .st (.ifs w a b x y) :: k => { c with stk := (if tst w a b c.vals then x else y).map .st ++ .jn :: k }
  | .st (.whl w a b x) :: k => { c with stk := if tst w a b c.vals then x.map .st ++ .st (.whl w a b x) :: k else k }
def isCall : List Fe → Bool
  | .st (.call _) :: _ => true
  | _ => false
def flt (c : Cfg) : Bool := isCall c.stk && decide (c.still = 20)
def stop (c : Cfg) : Bool := c.stk.isEmpty || flt c
/-- so many steps, or fewer -/
def runN (rs : List (List Stm)) : Nat → Cfg → Cfg
  | 0, c => c
  | n + 1, c => if stop c then c else runN rs n (nxt rs c)
/-! ### plans -/
inductive Tk where
  | bg | jn | en | st (s : Stm) | ts (w : Bool) (a b : List Int)
abbrev Start := Nat × Nat
structure Pn where
  tasks : List Tk
  coming : List (List Start)
def Pn.add (T : Pn) (t : Tk) (s : List Start) : Pn := ⟨T.tasks ++ [t], T.coming ++ [s]⟩
def Pn.also (T : Pn) (p : Nat) (s : Start) : Pn := ⟨T.tasks, T.coming.modify p (· ++ [s])⟩
mutual
def layS (T : Pn) (s0 : Start) : Stm → Pn × Start
  | .ifs w a b x y =>
    let f := layB (T.add (.ts w a b) [s0]) (T.tasks.length, 0) x
    let g := layB f.1 (T.tasks.length, 1) y
    (g.1.add .jn [g.2, f.2], (g.1.tasks.length, 0))
  | .whl w a b x =>
    let f := layB (T.add (.ts w a b) [s0]) (T.tasks.length, 0) x
    (f.1.also T.tasks.length f.2, (T.tasks.length, 1))
  | .set c s => (T.add (.st (.set c s)) [s0], (T.tasks.length, 0))
  | .say s => (T.add (.st (.say s)) [s0], (T.tasks.length, 0))
  | .call r => (T.add (.st (.call r)) [s0], (T.tasks.length, 0))
def layB (T : Pn) (s0 : Start) : List Stm → Pn × Start
  | [] => (T, s0)
  | s :: r => layB (layS T s0 s).1 (layS T s0 s).2 r
end
def plan (b : List Stm) : Pn := (layB ⟨[.bg], [[]]⟩ (0, 0) b).1.add .en [(layB ⟨[.bg], [[]]⟩ (0, 0) b).2]
/-! ### what is left at a place, behind an arrow -/
def cont (br : Nat) : List Fe → List Fe
  | .st (.ifs _ _ _ x y) :: k => (if br = 0 then x else y).map .st ++ .jn :: k
  | .st (.whl w a b x) :: k => if br = 0 then x.map .st ++ .st (.whl w a b x) :: k else k
  | _ :: k => k
  | [] => []
def tkOf : List Fe → Tk
  | .bg :: _ => .bg
  | .jn :: _ => .jn
  | .st (.ifs w a b _ _) :: _ => .ts w a b
  | .st (.whl w a b _) :: _ => .ts w a b
  | .st s :: _ => .st s
  | _ => .en
def brs : Tk → List Nat
  | .ts _ _ _ => [0, 1]
  | .en => []
  | _ => [0]
def starts (ts : List Tk) : List Start := ts.zipIdx.flatMap fun p => (brs p.1).map fun b => (p.2, b)
/-- it ends with the end, once -/
def Fin (k : List Fe) : Prop := ∃ l, k = l ++ [.en] ∧ Fe.en ∉ l
theorem Fin.cont {k : List Fe} (h : Fin k) (br : Nat) (hn : Bk.cont br k ≠ []) : Fin (Bk.cont br k) := by
  obtain ⟨l, rfl, hl⟩ := h
  cases l with
  | nil => exact absurd rfl hn
  | cons f l =>
    have hl2 : Fe.en ∉ l := fun z => hl (List.mem_cons_of_mem _ z)
    have hm : ∀ b : List Stm, Fe.en ∉ b.map Fe.st := fun b z => by
      obtain ⟨x, _, e⟩ := List.mem_map.mp z
      cases e
    cases f with
    | bg => exact ⟨l, rfl, hl2⟩
    | jn => exact ⟨l, rfl, hl2⟩
    | en => exact ⟨l, rfl, hl2⟩
    | st s =>
      cases s with
      | set c z => exact ⟨l, rfl, hl2⟩
      | say z => exact ⟨l, rfl, hl2⟩
      | call r => exact ⟨l, rfl, hl2⟩
      | ifs w a b x y => exact ⟨(if br = 0 then x else y).map Fe.st ++ .jn :: l, by show _ ++ _ :: (l ++ _) = _; simp, by simp [hm, hl2]⟩
      | whl w a b x =>
        show Fin (if br = 0 then x.map Fe.st ++ .st (.whl w a b x) :: (l ++ [.en]) else l ++ [.en])
        by_cases e : br = 0
        · rw [if_pos e]; exact ⟨x.map Fe.st ++ .st (.whl w a b x) :: l, by simp, by simp [hm, hl2]⟩
        · rw [if_neg e]; exact ⟨l, rfl, hl2⟩
theorem Fin.ne {k : List Fe} (h : Fin k) : k ≠ [] := by obtain ⟨l, rfl, _⟩ := h; simp
/-- G: what is left at each place; O: the starts that lead nowhere yet -/
structure Good (T : Pn) (G : List (List Fe)) (O : List Start) : Prop where
  len : T.coming.length = T.tasks.length
  lenG : G.length = T.tasks.length
  tk : ∀ (p : Nat) (k : List Fe), G[p]? = some k → T.tasks[p]? = some (tkOf k)
  way : ∀ (q : Nat) (l : List Start) (s : Start), T.coming[q]? = some l → s ∈ l → ∃ k, G[s.1]? = some k ∧ G[q]? = some (cont s.2 k)
  perm : (T.coming.flatten ++ O).Perm (starts T.tasks)
  fin : ∀ (p : Nat) (k : List Fe), G[p]? = some k → Fin k
theorem starts_add (ts : List Tk) (t : Tk) : starts (ts ++ [t]) = starts ts ++ (brs t).map fun b => (ts.length, b) := by
  unfold starts
  rw [List.zipIdx_append, List.flatMap_append]
  simp
theorem app_get {α : Type} {l : List α} {x y : α} {i : Nat} (h : (l ++ [x])[i]? = some y) : (l[i]? = some y) ∨ (i = l.length ∧ y = x) := by
  by_cases hi : i < l.length
  · rw [List.getElem?_append_left hi] at h; exact .inl h
  · rw [List.getElem?_append_right (by omega)] at h
    by_cases z : i - l.length = 0
    · rw [z] at h; exact .inr ⟨by omega, by simpa using h.symm⟩
    · rw [List.getElem?_eq_none (by simp; omega)] at h; cases h
theorem get_app {α : Type} {l : List α} {x y : α} {i : Nat} (h : l[i]? = some y) : (l ++ [x])[i]? = some y := by
  rw [List.getElem?_append_left (List.getElem?_eq_some_iff.mp h).1]; exact h
/-- a place more, to which open starts lead -/
theorem Good.add {T : Pn} {G : List (List Fe)} {O S : List Start} {k : List Fe} (h : Good T G (S ++ O)) (hk : Fin k) (hS : ∀ s ∈ S, ∃ j, G[s.1]? = some j ∧ cont s.2 j = k) :
    Good (T.add (tkOf k) S) (G ++ [k]) ((brs (tkOf k)).map (fun b => (T.tasks.length, b)) ++ O) := by
  refine ⟨by simp [Pn.add, h.len], by simp [Pn.add, h.lenG], fun p j hp => ?_, fun q l s hq hs => ?_, ?_, fun p j hp => ?_⟩
  · rcases app_get hp with hp | ⟨rfl, rfl⟩
    · exact get_app (h.tk p j hp)
    · show (T.tasks ++ [_])[_]? = _
      rw [h.lenG]; simp
  · rcases app_get hq with hq | ⟨rfl, rfl⟩
    · obtain ⟨j, h1, h2⟩ := h.way q l s hq hs
      exact ⟨j, get_app h1, get_app h2⟩
    · obtain ⟨j, h1, h2⟩ := hS s hs
      refine ⟨j, get_app h1, ?_⟩
      rw [h2, h.len, ← h.lenG]; simp
  · show ((T.coming ++ [S]).flatten ++ _).Perm (starts (T.tasks ++ [_]))
    rw [starts_add, List.flatten_append, List.flatten_singleton]
    have := h.perm
    rw [← List.append_assoc] at this
    rw [← List.append_assoc]
    refine (List.Perm.append_right _ (List.perm_append_comm)).trans ?_
    rw [List.append_assoc]
    exact (List.Perm.append_left _ this).trans List.perm_append_comm
  · rcases app_get hp with hp | ⟨rfl, rfl⟩
    · exact h.fin p j hp
    · exact hk
theorem snoc_at {α : Type} {l : List α} {x : α} {n : Nat} (h : l.length = n) : (l ++ [x])[n]? = some x := by subst h; simp
theorem modify_get {α : Type} {f : α → α} : ∀ {l : List α} {p i : Nat} {y : α}, (l.modify p f)[i]? = some y → (i = p ∧ ∃ x, l[i]? = some x ∧ y = f x) ∨ (i ≠ p ∧ l[i]? = some y) := by
  intro l p i y h
  rw [List.getElem?_modify] at h
  cases z : l[i]? with
  | none => rw [z] at h; cases h
  | some x =>
    rw [z] at h
    have h' : (if p = i then f x else x) = y := Option.some.inj h
    by_cases e : p = i
    · rw [if_pos e] at h'; exact .inl ⟨e.symm, x, rfl, h'.symm⟩
    · rw [if_neg e] at h'; exact .inr ⟨fun w => e w.symm, by rw [h']⟩
theorem modify_flat {s : Start} : ∀ {l : List (List Start)} {p : Nat}, p < l.length → ((l.modify p (· ++ [s])).flatten).Perm (l.flatten ++ [s])
  | x :: l, 0, _ => by
    show ((x ++ [s]) ++ l.flatten).Perm _
    rw [List.append_assoc, List.flatten_cons, List.append_assoc]
    exact List.Perm.append_left _ List.perm_append_comm
  | x :: l, p + 1, h => by
    show (x ++ (l.modify p (· ++ [s])).flatten).Perm _
    rw [List.flatten_cons, List.append_assoc]
    exact List.Perm.append_left _ (modify_flat (by simpa using h))
theorem Good.also {T : Pn} {G : List (List Fe)} {O : List Start} {p : Nat} {s : Start} {j k : List Fe} (h : Good T G (s :: O)) (hp : G[p]? = some k) (hs : G[s.1]? = some j) (hc : cont s.2 j = k) : Good (T.also p s) G O := by
  have hl : p < T.coming.length := by rw [h.len, ← h.lenG]; exact (List.getElem?_eq_some_iff.mp hp).1
  refine ⟨by simp [Pn.also, h.len], h.lenG, h.tk, fun q l t hq ht => ?_, ?_, h.fin⟩
  · rcases modify_get hq with ⟨rfl, x, hx, rfl⟩ | ⟨_, hq⟩
    · rcases List.mem_append.mp ht with ht | ht
      · exact h.way _ x t hx ht
      · rw [List.mem_singleton] at ht
        subst ht
        exact ⟨j, hs, by rw [hc]; exact hp⟩
    · exact h.way q l t hq ht
  · refine (List.Perm.append_right _ (modify_flat hl)).trans ?_
    rw [List.append_assoc]
    exact h.perm
theorem Good.swap {T : Pn} {G : List (List Fe)} {O O' : List Start} (h : Good T G O) (p : O'.Perm O) : Good T G O' := ⟨h.len, h.lenG, h.tk, h.way, (List.Perm.append_left _ p).trans h.perm, h.fin⟩
theorem pre_get {α : Type} {a b : List α} (h : a <+: b) {i : Nat} {x : α} (e : a[i]? = some x) : b[i]? = some x := by
  obtain ⟨t, rfl⟩ := h
  rw [List.getElem?_append_left (List.getElem?_eq_some_iff.mp e).1]; exact e
theorem tkOf_st {s : Stm} {k : List Fe} : tkOf (.st s :: k) = match s with
  | .ifs w a b _ _ => .ts w a b
  | .whl w a b _ => .ts w a b
  | s => .st s := by cases s <;> rfl
mutual
theorem good_layS {T : Pn} {G : List (List Fe)} {O : List Start} {s0 : Start} {j rest : List Fe} : ∀ (s : Stm), Good T G (s0 :: O) → G[s0.1]? = some j → cont s0.2 j = .st s :: rest →
    ∃ G' j', Good (layS T s0 s).1 G' ((layS T s0 s).2 :: O) ∧ G <+: G' ∧ G'[(layS T s0 s).2.1]? = some j' ∧ cont (layS T s0 s).2.2 j' = rest
  | .set c z, h, hj, hc => by
    have := Good.add (S := [s0]) (k := .st (.set c z) :: rest) h (hc ▸ (h.fin _ _ hj).cont _ (by rw [hc]; simp)) (fun s hs => by rw [List.mem_singleton] at hs; subst hs; exact ⟨j, hj, hc⟩)
    exact ⟨_, _, this, ⟨_, rfl⟩, snoc_at h.lenG, rfl⟩
  | .say z, h, hj, hc => by
    have := Good.add (S := [s0]) (k := .st (.say z) :: rest) h (hc ▸ (h.fin _ _ hj).cont _ (by rw [hc]; simp)) (fun s hs => by rw [List.mem_singleton] at hs; subst hs; exact ⟨j, hj, hc⟩)
    exact ⟨_, _, this, ⟨_, rfl⟩, snoc_at h.lenG, rfl⟩
  | .call r, h, hj, hc => by
    have := Good.add (S := [s0]) (k := .st (.call r) :: rest) h (hc ▸ (h.fin _ _ hj).cont _ (by rw [hc]; simp)) (fun s hs => by rw [List.mem_singleton] at hs; subst hs; exact ⟨j, hj, hc⟩)
    exact ⟨_, _, this, ⟨_, rfl⟩, snoc_at h.lenG, rfl⟩
  | .ifs w a b x y, h, hj, hc => by
    have h1 := Good.add (S := [s0]) (k := .st (.ifs w a b x y) :: rest) h (hc ▸ (h.fin _ _ hj).cont _ (by rw [hc]; simp)) (fun s hs => by rw [List.mem_singleton] at hs; subst hs; exact ⟨j, hj, hc⟩)
    have e1 : (G ++ [.st (.ifs w a b x y) :: rest])[T.tasks.length]? = some (.st (.ifs w a b x y) :: rest) := snoc_at h.lenG
    obtain ⟨G2, j2, h2, p2, e2, c2⟩ := good_layB (T := T.add (.ts w a b) [s0]) (O := (T.tasks.length, 1) :: O) (s0 := (T.tasks.length, 0)) (rest := .jn :: rest) x h1 e1 rfl
    obtain ⟨G3, j3, h3, p3, e3, c3⟩ := good_layB (T := (layB (T.add (.ts w a b) [s0]) (T.tasks.length, 0) x).1) (O := (layB (T.add (.ts w a b) [s0]) (T.tasks.length, 0) x).2 :: O) (s0 := (T.tasks.length, 1)) (rest := .jn :: rest) y (h2.swap (List.Perm.swap _ _ _)) (pre_get p2 e1) rfl
    have h4 := Good.add (O := O) (S := [(layB (layB (T.add (.ts w a b) [s0]) (T.tasks.length, 0) x).1 (T.tasks.length, 1) y).2, (layB (T.add (.ts w a b) [s0]) (T.tasks.length, 0) x).2]) (k := .jn :: rest) h3 (c3 ▸ (h3.fin _ _ e3).cont _ (by rw [c3]; simp)) (fun s hs => by
      rcases List.mem_cons.mp hs with rfl | hs
      · exact ⟨j3, e3, c3⟩
      · rw [List.mem_singleton] at hs; subst hs; exact ⟨j2, pre_get p3 e2, c2⟩)
    exact ⟨_, _, h4, ((List.prefix_append _ _).trans p2).trans (p3.trans (List.prefix_append _ _)), snoc_at h3.lenG, rfl⟩
  | .whl w a b x, h, hj, hc => by
    have h1 := Good.add (S := [s0]) (k := .st (.whl w a b x) :: rest) h (hc ▸ (h.fin _ _ hj).cont _ (by rw [hc]; simp)) (fun s hs => by rw [List.mem_singleton] at hs; subst hs; exact ⟨j, hj, hc⟩)
    have e1 : (G ++ [.st (.whl w a b x) :: rest])[T.tasks.length]? = some (.st (.whl w a b x) :: rest) := snoc_at h.lenG
    obtain ⟨G2, j2, h2, p2, e2, c2⟩ := good_layB (T := T.add (.ts w a b) [s0]) (O := (T.tasks.length, 1) :: O) (s0 := (T.tasks.length, 0)) (rest := .st (.whl w a b x) :: rest) x h1 e1 rfl
    exact ⟨G2, _, h2.also (pre_get p2 e1) e2 c2, (List.prefix_append _ _).trans p2, pre_get p2 e1, rfl⟩
theorem good_layB {T : Pn} {G : List (List Fe)} {O : List Start} {s0 : Start} {j rest : List Fe} : ∀ (b : List Stm), Good T G (s0 :: O) → G[s0.1]? = some j → cont s0.2 j = b.map .st ++ rest →
    ∃ G' j', Good (layB T s0 b).1 G' ((layB T s0 b).2 :: O) ∧ G <+: G' ∧ G'[(layB T s0 b).2.1]? = some j' ∧ cont (layB T s0 b).2.2 j' = rest
  | [], h, hj, hc => ⟨G, j, h, List.prefix_refl _, hj, hc⟩
  | s :: r, h, hj, hc => by
    obtain ⟨G1, j1, h1, p1, e1, c1⟩ := good_layS (rest := r.map .st ++ rest) s h hj (by rw [hc]; rfl)
    obtain ⟨G2, j2, h2, p2, e2, c2⟩ := good_layB (rest := rest) r h1 e1 c1
    exact ⟨G2, j2, h2, p1.trans p2, e2, c2⟩
end
theorem good_plan (b : List Stm) : ∃ G, Good (plan b) G [] ∧ G[0]? = some (.bg :: (b.map .st ++ [.en])) := by
  have h0 : Good ⟨[.bg], [[]]⟩ [.bg :: (b.map .st ++ [.en])] [(0, 0)] := by
    refine ⟨rfl, rfl, fun p k hp => ?_, fun q l s hq hs => ?_, by simp [starts, brs], fun p k hp => ?_⟩
    · cases p with
      | zero => simp at hp; subst hp; rfl
      | succ p => simp at hp
    · cases q with
      | zero => simp at hq; subst hq; cases hs
      | succ q => simp at hq
    · cases p with
      | zero =>
        simp at hp; subst hp
        refine ⟨.bg :: b.map .st, by simp, fun z => ?_⟩
        rcases List.mem_cons.mp z with e | z
        · cases e
        · obtain ⟨x, _, e⟩ := List.mem_map.mp z; cases e
      | succ p => simp at hp
  obtain ⟨G, j, h1, p1, e1, c1⟩ := good_layB (rest := [.en]) b h0 rfl rfl
  have h2 := Good.add (O := []) (S := [(layB ⟨[.bg], [[]]⟩ (0, 0) b).2]) (k := [.en]) h1 ⟨[], rfl, by simp⟩ (fun s hs => by rw [List.mem_singleton] at hs; subst hs; exact ⟨j, e1, c1⟩)
  have h3 : Good (plan b) (G ++ [[.en]]) [] := h2
  exact ⟨G ++ [[.en]], h3, get_app (pre_get p1 rfl)⟩
/-! ### how laying grows a plan -/
theorem pre_modify {α : Type} {g : α → α} {a b : List α} (h : a <+: b) {p : Nat} (hp : a.length ≤ p) : a <+: b.modify p g := by
  obtain ⟨t, rfl⟩ := h
  refine ⟨t.modify (p - a.length) g, ?_⟩
  refine List.ext_getElem? fun i => ?_
  rw [List.getElem?_modify]
  by_cases hi : i < a.length
  · rw [List.getElem?_append_left hi, List.getElem?_append_left hi]
    cases a[i]? with
    | none => rfl
    | some x => show some x = some (if p = i then g x else x); rw [if_neg (by omega)]
  · rw [List.getElem?_append_right (by omega), List.getElem?_append_right (by omega), List.getElem?_modify]
    cases t[i - a.length]? with
    | none => rfl
    | some x =>
      show some (if p - a.length = i - a.length then g x else x) = some (if p = i then g x else x)
      by_cases e : p = i
      · rw [if_pos (by omega), if_pos e]
      · rw [if_neg (by omega), if_neg e]
structure Grown (T T' : Pn) (n : Nat) : Prop where
  tk : T'.tasks.length = T.tasks.length + n
  cm : T'.coming.length = T'.tasks.length
  pc : T.coming <+: T'.coming
  pt : T.tasks <+: T'.tasks
theorem Grown.trans {T T1 T2 : Pn} {a b : Nat} (h : Grown T T1 a) (h2 : Grown T1 T2 b) : Grown T T2 (a + b) := ⟨by rw [h2.tk, h.tk]; omega, h2.cm, h.pc.trans h2.pc, h.pt.trans h2.pt⟩
theorem Grown.add {T : Pn} (h : T.coming.length = T.tasks.length) (t : Tk) (s : List Start) : Grown T (T.add t s) 1 := ⟨by simp [Pn.add], by simp [Pn.add, h], List.prefix_append _ _, List.prefix_append _ _⟩
mutual
theorem grownS {T : Pn} {s0 : Start} (h : T.coming.length = T.tasks.length) : ∀ s : Stm, Grown T (layS T s0 s).1 (szS s)
  | .set c z => .add h _ _
  | .say z => .add h _ _
  | .call r => .add h _ _
  | .ifs w a b x y => by
    have h1 := Grown.add h (.ts w a b) [s0]
    have h2 := grownB (s0 := (T.tasks.length, 0)) h1.cm x
    have h3 := grownB (s0 := (T.tasks.length, 1)) h2.cm y
    have h4 := Grown.add h3.cm .jn [(layB (layB (T.add (.ts w a b) [s0]) (T.tasks.length, 0) x).1 (T.tasks.length, 1) y).2, (layB (T.add (.ts w a b) [s0]) (T.tasks.length, 0) x).2]
    have h5 := ((h1.trans h2).trans h3).trans h4
    have e : szS (.ifs w a b x y) = 1 + szB x + szB y + 1 := by simp [szS]; omega
    rw [e]; exact h5
  | .whl w a b x => by
    have h1 := Grown.add h (.ts w a b) [s0]
    have h2 := grownB (s0 := (T.tasks.length, 0)) h1.cm x
    have h3 := h1.trans h2
    have e : szS (.whl w a b x) = 1 + szB x := by simp [szS]
    rw [e]
    exact ⟨h3.tk, by show ((layB _ _ x).1.coming.modify _ _).length = _; rw [List.length_modify]; exact h3.cm, pre_modify h3.pc (by omega), h3.pt⟩
theorem grownB {T : Pn} {s0 : Start} (h : T.coming.length = T.tasks.length) : ∀ b : List Stm, Grown T (layB T s0 b).1 (szB b)
  | [] => ⟨by simp [layB, szB], h, List.prefix_refl _, List.prefix_refl _⟩
  | s :: r => by
    have h1 := grownS (s0 := s0) h s
    have h2 := grownB (s0 := (layS T s0 s).2) h1.cm r
    have := h1.trans h2
    simpa [layB, szB] using this
end
end Bk
set_option Elab.async false
set_option linter.all false
set_option maxRecDepth 100000
/-! # what stands for what: statements as data; a plan's ways -/
namespace Cl
open PySem PySem.Spec PyProof.Rows L2 Ab Bk
def smD (s : List Int) : D := .tup (s.map D.int)
def wdD (w : Bool) : D := .str (if w then "less" else "same")
def tsD (w : Bool) (a b : List Int) : D := .tup [wdD w, smD a, smD b]
mutual
def stD : Stm → D
  | .set c s => .tup [.str "set", I c, smD s]
  | .say s => .tup [.str "say", smD s]
  | .call r => .tup [.str "call", I r]
  | .ifs w a b x y => .tup [.str "if", tsD w a b, .tup (bdD x), .tup (bdD y)]
  | .whl w a b x => .tup [.str "while", tsD w a b, .tup (bdD x)]
def bdD : List Stm → List D
  | [] => []
  | s :: r => stD s :: bdD r
end
theorem bdD_map : ∀ b : List Stm, bdD b = b.map stD
  | [] => by simp [bdD]
  | s :: r => by simp [bdD, bdD_map r]
theorem bdD_len (b : List Stm) : (bdD b).length = b.length := by rw [bdD_map]; simp
def tkD : Tk → D
  | .bg => .str "begin"
  | .jn => .str "join"
  | .en => .str "end"
  | .st s => stD s
  | .ts w a b => tsD w a b
def srD (s : Start) : D := .tup [I s.1, I s.2]
/-! ### the ways of a plan, sorted by their starts -/
def dest (T : Pn) (s : Start) : Nat := T.coming.findIdx fun l => decide (s ∈ l)
def s3 (s : Start) (q : Nat) : T3 := (((s.1 : Int), (s.2 : Int)), (q : Int))
def headsOf (c : List (List Start)) (k : Nat) : List T3 := (c.zipIdx k).flatMap fun p => p.1.map fun s => s3 s p.2
def waysL (T : Pn) : List T3 := (starts T.tasks).map fun s => s3 s (dest T s)
theorem starts_nodup (ts : List Tk) : (starts ts).Nodup := by
  unfold starts
  have key : ∀ (ts : List Tk) (k : Nat), ((ts.zipIdx k).flatMap fun p => (brs p.1).map fun b => (p.2, b)).Nodup ∧ ∀ s ∈ ((ts.zipIdx k).flatMap fun p => (brs p.1).map fun b => (p.2, b)), k ≤ s.1 := by
    intro ts
    induction ts with
    | nil => intro k; simp
    | cons t ts ih =>
      intro k
      obtain ⟨h1, h2⟩ := ih (k + 1)
      rw [List.zipIdx_cons, List.flatMap_cons]
      have hb : ((brs t).map fun b => (k, b)).Nodup := by cases t <;> simp [brs]
      refine ⟨List.nodup_append.mpr ⟨hb, h1, fun a ha b hb e => ?_⟩, fun s hs => ?_⟩
      · subst e
        obtain ⟨x, _, rfl⟩ := List.mem_map.mp ha
        have := h2 _ hb
        simp at this
        omega
      · rcases List.mem_append.mp hs with hs | hs
        · obtain ⟨x, _, rfl⟩ := List.mem_map.mp hs; simp
        · have := h2 s hs; omega
  exact (key ts 0).1
theorem starts_sorted (ts : List Tk) : (starts ts).Pairwise fun s t => s.1 < t.1 ∨ (s.1 = t.1 ∧ s.2 < t.2) := by
  unfold starts
  have key : ∀ (ts : List Tk) (k : Nat), ((ts.zipIdx k).flatMap fun p => (brs p.1).map fun b => (p.2, b)).Pairwise (fun s t => s.1 < t.1 ∨ (s.1 = t.1 ∧ s.2 < t.2)) ∧ ∀ s ∈ ((ts.zipIdx k).flatMap fun p => (brs p.1).map fun b => (p.2, b)), k ≤ s.1 := by
    intro ts
    induction ts with
    | nil => intro k; simp
    | cons t ts ih =>
      intro k
      obtain ⟨h1, h2⟩ := ih (k + 1)
      rw [List.zipIdx_cons, List.flatMap_cons]
      refine ⟨List.pairwise_append.mpr ⟨by cases t <;> simp [brs], h1, fun a ha b hb => ?_⟩, fun s hs => ?_⟩
      · obtain ⟨x, _, rfl⟩ := List.mem_map.mp ha
        have := h2 _ hb
        exact .inl (by simp; omega)
      · rcases List.mem_append.mp hs with hs | hs
        · obtain ⟨x, _, rfl⟩ := List.mem_map.mp hs; simp
        · have := h2 s hs; omega
  exact (key ts 0).1
theorem headsOf_dest : ∀ (c : List (List Start)) (k : Nat), c.flatten.Nodup → headsOf c k = c.flatten.map fun s => s3 s (k + c.findIdx fun l => decide (s ∈ l))
  | [], k, _ => rfl
  | l :: c, k, h => by
    rw [List.flatten_cons] at h
    obtain ⟨h1, h2, h3⟩ := List.nodup_append.mp h
    show (((l :: c).zipIdx k).flatMap fun p => p.1.map fun s => s3 s p.2) = _
    rw [List.zipIdx_cons, List.flatMap_cons, List.flatten_cons, List.map_append]
    have ih := headsOf_dest c (k + 1) h2
    unfold headsOf at ih
    rw [ih]
    congr 1
    · refine List.map_congr_left fun s hs => ?_
      rw [List.findIdx_cons]
      simp [hs]
    · refine List.map_congr_left fun s hs => ?_
      rw [List.findIdx_cons]
      have hn : s ∉ l := fun z => h3 s z s hs rfl
      simp [hn]
      congr 1
      omega
theorem sort_ways {T : Pn} {G : List (List Fe)} (h : Good T G []) : sort3 (headsOf T.coming 0) = waysL T := by
  have hp : T.coming.flatten.Perm (starts T.tasks) := by have := h.perm; rwa [List.append_nil] at this
  have hn : T.coming.flatten.Nodup := hp.nodup_iff.mpr (starts_nodup _)
  have e1 : headsOf T.coming 0 = T.coming.flatten.map fun s => s3 s (dest T s) := by
    rw [headsOf_dest _ _ hn]
    refine List.map_congr_left fun s _ => ?_
    unfold dest
    rw [Nat.zero_add]
  have p1 : (sort3 (headsOf T.coming 0)).Perm (waysL T) := by
    refine (sort3_perm _).trans ?_
    rw [e1]
    exact hp.map _
  have s1 : (sort3 (headsOf T.coming 0)).Pairwise fun a b => (!PySem.W.DatumOrd.lt b a) = true := by
    have := List.pairwise_mergeSort (le := PySem.W.dataLe false enc3) (fun a b c => (PySem.W.sortLe_total _ _ _).trans a b c) (fun a b => by rw [Bool.or_eq_true]; exact (PySem.W.sortLe_total _ _ _).total a b) (headsOf T.coming 0)
    exact this.imp fun {a b} z => by rw [← le3]; exact z
  have s2 : (waysL T).Pairwise fun a b => (!PySem.W.DatumOrd.lt b a) = true := by
    unfold waysL
    rw [List.pairwise_map]
    refine (starts_sorted T.tasks).imp fun {s t} z => ?_
    show (!(if ((t.1 : Int), (t.2 : Int)) = ((s.1 : Int), (s.2 : Int)) then decide (((dest T t : Nat) : Int) < (dest T s : Nat)) else (if (t.1 : Int) = s.1 then decide ((t.2 : Int) < s.2) else decide ((t.1 : Int) < s.1)))) = true
    rcases z with z | ⟨z1, z2⟩
    · rw [if_neg (by intro e; have := (Prod.mk.inj e).1; omega), if_neg (by omega)]
      simp; omega
    · rw [if_neg (by intro e; have := (Prod.mk.inj e).2; omega), if_pos (by omega)]
      simp; omega
  refine List.Perm.eq_of_pairwise (le := fun a b => (!PySem.W.DatumOrd.lt b a) = true) (fun a b _ _ h1 h2 => ?_) s1 s2 p1
  have key : ∀ x y : T3, PySem.W.DatumOrd.lt x y = (if x.1 = y.1 then decide (x.2 < y.2) else (if x.1.1 = y.1.1 then decide (x.1.2 < y.1.2) else decide (x.1.1 < y.1.1))) := fun _ _ => rfl
  rw [key] at h1 h2
  obtain ⟨⟨a1, a2⟩, a3⟩ := a
  obtain ⟨⟨b1, b2⟩, b3⟩ := b
  simp only [Bool.not_eq_true', Prod.mk.injEq] at h1 h2 ⊢
  by_cases e1 : a1 = b1
  · by_cases e2 : a2 = b2
    · subst e1; subst e2
      simp only [and_self, if_true, decide_eq_false_iff_not] at h1 h2
      exact ⟨⟨rfl, rfl⟩, by omega⟩
    · exfalso
      rw [if_neg (fun z => e2 z.2.symm), if_pos e1.symm, decide_eq_false_iff_not] at h1
      rw [if_neg (fun z => e2 z.2), if_pos e1, decide_eq_false_iff_not] at h2
      omega
  · exfalso
    rw [if_neg (fun z => e1 z.1.symm), if_neg (fun z => e1 z.symm), decide_eq_false_iff_not] at h1
    rw [if_neg (fun z => e1 z.1), if_neg e1, decide_eq_false_iff_not] at h2
    omega
end Cl
set_option Elab.async false
set_option linter.all false
set_option maxRecDepth 100000
/-! # a runner, and the run by the text: the mathematics -/
namespace Bk
def simple : Stm → Prop
  | .ifs _ _ _ _ _ => False
  | .whl _ _ _ _ => False
  | _ => True
def okTk (C R : Nat) : Tk → Prop
  | .st s => okS C R s ∧ simple s
  | .ts _ a b => okSum C a ∧ okSum C b
  | _ => True
mutual
theorem okTk_S {C R : Nat} {T : Pn} {s0 : Start} : ∀ s : Stm, okS C R s → (∀ t ∈ T.tasks, okTk C R t) → ∀ t ∈ (layS T s0 s).1.tasks, okTk C R t
  | .set c z, h, hT => fun t ht => by
    rcases List.mem_append.mp ht with ht | ht
    · exact hT t ht
    · rw [List.mem_singleton] at ht; subst ht; exact ⟨h, trivial⟩
  | .say z, h, hT => fun t ht => by
    rcases List.mem_append.mp ht with ht | ht
    · exact hT t ht
    · rw [List.mem_singleton] at ht; subst ht; exact ⟨h, trivial⟩
  | .call r, h, hT => fun t ht => by
    rcases List.mem_append.mp ht with ht | ht
    · exact hT t ht
    · rw [List.mem_singleton] at ht; subst ht; exact ⟨h, trivial⟩
  | .ifs w a b x y, h, hT => fun t ht => by
    simp only [okS] at h
    rcases List.mem_append.mp ht with ht | ht
    · refine okTk_B y h.2.2.2 (okTk_B x h.2.2.1 fun t ht => ?_) t ht
      rcases List.mem_append.mp ht with ht | ht
      · exact hT t ht
      · rw [List.mem_singleton] at ht; subst ht; exact ⟨h.1, h.2.1⟩
    · rw [List.mem_singleton] at ht; subst ht; trivial
  | .whl w a b x, h, hT => fun t ht => by
    simp only [okS] at h
    refine okTk_B x h.2.2 (fun t ht => ?_) t ht
    rcases List.mem_append.mp ht with ht | ht
    · exact hT t ht
    · rw [List.mem_singleton] at ht; subst ht; exact ⟨h.1, h.2.1⟩
theorem okTk_B {C R : Nat} {T : Pn} {s0 : Start} : ∀ b : List Stm, okB C R b → (∀ t ∈ T.tasks, okTk C R t) → ∀ t ∈ (layB T s0 b).1.tasks, okTk C R t
  | [], h, hT => hT
  | s :: r, h, hT => by
    simp only [okB] at h
    exact okTk_B r h.2 (okTk_S s h.1 hT)
end
theorem okTk_plan {C R : Nat} {b : List Stm} (h : okB C R b) : ∀ t ∈ (plan b).tasks, okTk C R t := fun t ht => by
  rcases List.mem_append.mp ht with ht | ht
  · exact okTk_B b h (fun t ht => by rw [List.mem_singleton] at ht; subst ht; trivial) t ht
  · rw [List.mem_singleton] at ht; subst ht; trivial
theorem plan_len (b : List Stm) : (plan b).tasks.length = szB b + 2 := by
  have := (grownB (T := ⟨[.bg], [[]]⟩) (s0 := (0, 0)) rfl b).tk
  show ((layB ⟨[.bg], [[]]⟩ (0, 0) b).1.tasks ++ [_]).length = _
  rw [List.length_append, this]
  simp
  omega
/-! ### starts and where they lead -/
theorem mem_starts {ts : List Tk} {p : Nat} {t : Tk} {b : Nat} (h : ts[p]? = some t) (hb : b ∈ brs t) : (p, b) ∈ starts ts := by
  unfold starts
  rw [List.mem_flatMap]
  exact ⟨(t, p), List.mem_zipIdx_iff_getElem?.mpr h, List.mem_map.mpr ⟨b, hb, rfl⟩⟩
noncomputable def Kk (b : List Stm) : List (List Fe) := (good_plan b).choose
theorem Kk_good (b : List Stm) : Good (plan b) (Kk b) [] := (good_plan b).choose_spec.1
theorem Kk_zero (b : List Stm) : (Kk b)[0]? = some (.bg :: (b.map .st ++ [.en])) := (good_plan b).choose_spec.2
/-- what is left at a place -/
noncomputable def kat (b : List Stm) (p : Nat) : List Fe := (Kk b).getD p []
theorem kat_get {b : List Stm} {p : Nat} (h : p < (plan b).tasks.length) : (Kk b)[p]? = some (kat b p) := by
  have : p < (Kk b).length := by rw [(Kk_good b).lenG]; exact h
  unfold kat
  rw [List.getD_eq_getElem?_getD, List.getElem?_eq_getElem this]; rfl
theorem kat_tk {b : List Stm} {p : Nat} (h : p < (plan b).tasks.length) : (plan b).tasks[p]? = some (tkOf (kat b p)) := (Kk_good b).tk p _ (kat_get h)
theorem kat_fin {b : List Stm} {p : Nat} (h : p < (plan b).tasks.length) : Fin (kat b p) := (Kk_good b).fin p _ (kat_get h)
theorem dest_ok {b : List Stm} {s : Start} (h : s ∈ starts (plan b).tasks) : Cl.dest (plan b) s < (plan b).tasks.length ∧ kat b (Cl.dest (plan b) s) = cont s.2 (kat b s.1) := by
  have g := Kk_good b
  have hm : s ∈ (plan b).coming.flatten := by
    have := g.perm
    rw [List.append_nil] at this
    exact this.mem_iff.mpr h
  obtain ⟨l, hl, hs⟩ := List.mem_flatten.mp hm
  have hx : ∃ x ∈ (plan b).coming, (fun l : List Start => decide (s ∈ l)) x = true := ⟨l, hl, by simpa using hs⟩
  have hlt : Cl.dest (plan b) s < (plan b).coming.length := List.findIdx_lt_length.mpr hx
  have hin : s ∈ (plan b).coming[Cl.dest (plan b) s] := by
    have := List.findIdx_getElem (w := hlt)
    exact of_decide_eq_true this
  obtain ⟨k, h1, h2⟩ := g.way _ _ s (List.getElem?_eq_getElem hlt) hin
  refine ⟨by rw [← g.len]; exact hlt, ?_⟩
  unfold kat
  rw [List.getD_eq_getElem?_getD, List.getD_eq_getElem?_getD, h1, h2]; rfl
/-! ### states of a runner -/
structure Past where
  stands : List (Nat × Nat)
  hold : List Int
  spoken : Nat
  gone : Nat
structure Rs where
  stands : List (Nat × Nat)
  hold : List Int
  spoken : List Int
  gone : List (Nat × Nat)
  past : List Past
  marks : List (List Int)
section
variable (bs : List (List Stm))
def bod (r : Nat) : List Stm := bs.getD r []
def tkAt (rp : Nat × Nat) : Tk := (plan (bod bs rp.1)).tasks.getD rp.2 .en
def top (s : Rs) : Nat × Nat := s.stands.getLastD (0, 0)
def along (s : Rs) (br : Nat) : Rs :=
  let r := (top s).1
  let st : Start := ((top s).2, br)
  { s with gone := s.gone ++ [(r, (starts (plan (bod bs r)).tasks).idxOf st)], stands := s.stands.dropLast ++ [(r, Cl.dest (plan (bod bs r)) st)] }
def push (s : Rs) : Rs := { s with past := s.past ++ [⟨s.stands, s.hold, s.spoken.length, s.gone.length⟩] }
def closeR (s : Rs) : Rs :=
  let s1 := { s with stands := s.stands.dropLast }
  if s1.stands.isEmpty then s1 else along bs s1 0
def doTk (s : Rs) : Tk → Rs
  | .en => closeR bs s
  | .ts w a b => along bs s (if tst w a b s.hold then 0 else 1)
  | .st (.call k) => { s with stands := s.stands ++ [(k, 0)] }
  | .st (.set c z) => along bs { s with hold := s.hold.set c (val z s.hold) } 0
  | .st (.say z) => along bs { s with spoken := s.spoken ++ [val z s.hold] } 0
  | _ => along bs s 0
def stepR (s : Rs) : Rs := doTk bs (push s) (tkAt bs (top s))
def tkCall : Tk → Bool
  | .st (.call _) => true
  | _ => false
def word (s : Rs) : String := if s.stands.isEmpty then "over" else if decide (s.stands.length = 20) && tkCall (tkAt bs (top s)) then "fault" else "runs"
structure Wf (C : Nat) (s : Rs) : Prop where
  few : s.stands.length ≤ 20
  at_ : ∀ rp ∈ s.stands, rp.1 < bs.length ∧ rp.2 < (plan (bod bs rp.1)).tasks.length
  low : ∀ rp ∈ s.stands.dropLast, tkCall (tkAt bs rp) = true
  hold : s.hold.length = C
  sp : s.spoken.length ≤ s.past.length
  gn : s.gone.length ≤ s.past.length
theorem tkAt_kat {rp : Nat × Nat} (h : rp.2 < (plan (bod bs rp.1)).tasks.length) : tkAt bs rp = tkOf (kat (bod bs rp.1) rp.2) := by
  unfold tkAt
  rw [List.getD_eq_getElem?_getD, kat_tk h]; rfl
theorem start_in {rp : Nat × Nat} {br : Nat} (h : rp.2 < (plan (bod bs rp.1)).tasks.length) (hb : br ∈ brs (tkAt bs rp)) : (rp.2, br) ∈ starts (plan (bod bs rp.1)).tasks :=
  mem_starts (kat_tk h) (by rw [← tkAt_kat bs h]; exact hb)
/-! ### the stack that a runner stands for (the innermost first) -/
noncomputable def low : List (Nat × Nat) → List Fe
  | [] => []
  | rp :: t => cont 0 (kat (bod bs rp.1) rp.2) ++ low t
noncomputable def stk : List (Nat × Nat) → List Fe
  | [] => []
  | rp :: t => kat (bod bs rp.1) rp.2 ++ low bs t
structure Sim (s : Rs) (c : Cfg) : Prop where
  vals : c.vals = s.hold
  said : c.said = s.spoken
  still : c.still = s.stands.length
  stk : c.stk = stk bs s.stands.reverse
theorem stands_top {s : Rs} (h : s.stands ≠ []) : s.stands = s.stands.dropLast ++ [top s] := by
  unfold top
  rw [List.getLastD_eq_getLast?, List.getLast?_eq_some_getLast h]
  exact (List.dropLast_concat_getLast h).symm
theorem top_snoc {l : List (Nat × Nat)} {x : Nat × Nat} {s : Rs} (h : s.stands = l ++ [x]) : top s = x := by unfold top; rw [h]; simp
theorem stk_top {s : Rs} (h : s.stands ≠ []) : stk bs s.stands.reverse = kat (bod bs (top s).1) (top s).2 ++ low bs s.stands.dropLast.reverse := by
  conv => lhs; rw [stands_top h]
  rw [List.reverse_append]; rfl
/-- an arrow is gone along: what is left -/
theorem along_ok {C : Nat} {s : Rs} (hs : s.stands ≠ []) (W : Wf bs C s) (hg : s.gone.length < s.past.length) {br : Nat} (hb : br ∈ brs (tkAt bs (top s))) :
    Wf bs C (along bs s br) ∧ (along bs s br).stands.length = s.stands.length ∧ (along bs s br).stands ≠ [] ∧ stk bs (along bs s br).stands.reverse = cont br (kat (bod bs (top s).1) (top s).2) ++ low bs s.stands.dropLast.reverse := by
  have e := stands_top hs
  have hl : s.stands.dropLast.length + 1 = s.stands.length := by
    have : s.stands.length ≠ 0 := fun z => hs (List.length_eq_zero_iff.mp z)
    rw [List.length_dropLast]; omega
  have ht : top s ∈ s.stands := by rw [e]; simp
  obtain ⟨a1, a2⟩ := W.at_ _ ht
  have hst := start_in bs a2 hb
  obtain ⟨d1, d2⟩ := dest_ok hst
  refine ⟨⟨?_, fun rp hrp => ?_, fun rp hrp => ?_, W.hold, W.sp, ?_⟩, ?_, by simp [along], ?_⟩
  · show (s.stands.dropLast ++ [_]).length ≤ 20
    rw [List.length_append, List.length_singleton, hl]; exact W.few
  · rcases List.mem_append.mp (show rp ∈ s.stands.dropLast ++ [_] from hrp) with h | h
    · exact W.at_ rp ((List.dropLast_sublist _).subset h)
    · rw [List.mem_singleton] at h; subst h; exact ⟨a1, d1⟩
  · have : rp ∈ (s.stands.dropLast ++ [((top s).1, Cl.dest (plan (bod bs (top s).1)) ((top s).2, br))]).dropLast := hrp
    rw [List.dropLast_concat] at this
    exact W.low rp this
  · show (s.gone ++ [_]).length ≤ s.past.length
    rw [List.length_append, List.length_singleton]; omega
  · show (s.stands.dropLast ++ [_]).length = _
    rw [List.length_append, List.length_singleton, hl]
  · show stk bs (s.stands.dropLast ++ [_]).reverse = _
    rw [List.reverse_append]
    show kat _ _ ++ low bs _ = _
    rw [d2]; rfl
theorem word_runs {s : Rs} (h : word bs s = "runs") : s.stands ≠ [] ∧ ¬ (s.stands.length = 20 ∧ tkCall (tkAt bs (top s)) = true) := by
  unfold word at h
  by_cases e : s.stands.isEmpty = true
  · rw [if_pos e] at h; exact absurd h (by decide)
  · rw [if_neg e] at h
    refine ⟨fun z => e (by rw [z]; rfl), fun ⟨h1, h2⟩ => ?_⟩
    rw [if_pos (by simp [h1, h2])] at h
    exact absurd h (by decide)
theorem push_wf {C : Nat} {s : Rs} (W : Wf bs C s) : Wf bs C (push s) ∧ (push s).gone.length < (push s).past.length ∧ (push s).spoken.length < (push s).past.length := by
  have h1 := W.sp; have h2 := W.gn
  refine ⟨⟨W.few, W.at_, W.low, W.hold, ?_, ?_⟩, ?_, ?_⟩ <;> (simp [push]; omega)
theorem kat_head {b : List Stm} {p : Nat} (h : p < (plan b).tasks.length) : ∃ f k, kat b p = f :: k := by
  obtain ⟨l, e, _⟩ := kat_fin h
  cases q : kat b p with
  | nil => rw [q] at e; simp at e
  | cons f k => exact ⟨f, k, rfl⟩
theorem step_ok {C : Nat} {s : Rs} {c : Cfg} (hw : word bs s = "runs") (W : Wf bs C s) (S : Sim bs s c) (hok : ∀ b ∈ bs, okB C bs.length b) : Wf bs C (stepR bs s) ∧ Sim bs (stepR bs s) (nxt bs c) := by
  obtain ⟨hs, hf⟩ := word_runs bs hw
  obtain ⟨W1, g1, p1⟩ := push_wf bs W
  have ht : top s ∈ s.stands := by rw [stands_top hs]; simp
  obtain ⟨a1, a2⟩ := W.at_ _ ht
  have ek := stk_top bs hs
  obtain ⟨f, k, ekat⟩ := kat_head a2
  have etk := tkAt_kat bs a2
  have hbd : bod bs (top s).1 ∈ bs := by
    unfold bod
    rw [List.getD_eq_getElem?_getD, List.getElem?_eq_getElem a1]
    exact List.getElem_mem a1
  have hokt := okTk_plan (hok _ hbd) (tkAt bs (top s)) (by rw [etk]; exact List.mem_of_getElem? (kat_tk a2))
  have hstk := S.stk
  rw [ek, ekat] at hstk
  have hs1 : (push s).stands ≠ [] := hs
  have htop : ∀ t, (t : Rs).stands = s.stands → top t = top s := fun t e => by unfold top; rw [e]
  unfold stepR
  rw [etk]
  rw [etk] at hokt hf
  cases f with
  | bg =>
    rw [ekat]
    obtain ⟨q1, q2, q3, q4⟩ := along_ok bs hs1 W1 g1 (br := 0) (by rw [show top (push s) = top s from rfl, etk, ekat]; simp [tkOf, brs])
    refine ⟨q1, ?_⟩
    unfold nxt
    rw [hstk]
    exact ⟨S.vals, S.said, by rw [show (doTk bs (push s) (tkOf (.bg :: k))).stands.length = _ from q2]; exact S.still, by
      rw [show stk bs (doTk bs (push s) (tkOf (.bg :: k))).stands.reverse = _ from q4]
      rw [show top (push s) = top s from rfl, ekat]; rfl⟩
  | jn =>
    rw [ekat]
    obtain ⟨q1, q2, q3, q4⟩ := along_ok bs hs1 W1 g1 (br := 0) (by rw [show top (push s) = top s from rfl, etk, ekat]; simp [tkOf, brs])
    refine ⟨q1, ?_⟩
    unfold nxt
    rw [hstk]
    exact ⟨S.vals, S.said, by rw [show (doTk bs (push s) (tkOf (.jn :: k))).stands.length = _ from q2]; exact S.still, by
      rw [show stk bs (doTk bs (push s) (tkOf (.jn :: k))).stands.reverse = _ from q4]
      rw [show top (push s) = top s from rfl, ekat]; rfl⟩
  | en =>
    have hk : k = [] := by
      obtain ⟨l, e, hl⟩ := kat_fin a2
      rw [ekat] at e
      cases l with
      | nil => simpa using e
      | cons x l => exact absurd (by have := (List.cons.inj e).1; simp [this]) hl
    subst hk
    rw [ekat]
    show Wf bs C (closeR bs (push s)) ∧ Sim bs (closeR bs (push s)) (nxt bs c)
    unfold nxt
    rw [hstk]
    unfold closeR
    dsimp only
    have hl : s.stands.dropLast.length + 1 = s.stands.length := by
      have : s.stands.length ≠ 0 := fun z => hs (List.length_eq_zero_iff.mp z)
      rw [List.length_dropLast]; omega
    have W2 : Wf bs C { push s with stands := (push s).stands.dropLast } := by
      refine ⟨Nat.le_trans (by show s.stands.dropLast.length ≤ s.stands.length; omega) W.few, fun rp h => W.at_ rp ((List.dropLast_sublist _).subset h), fun rp h => W.low rp ((List.dropLast_sublist _).subset h), W.hold, W1.sp, W1.gn⟩
    by_cases e : s.stands.dropLast = []
    · rw [if_pos (by show s.stands.dropLast.isEmpty = true; rw [e]; rfl)]
      refine ⟨W2, S.vals, S.said, ?_, ?_⟩
      · show c.still - 1 = s.stands.dropLast.length
        rw [S.still]; omega
      · show [] ++ low bs s.stands.dropLast.reverse = stk bs s.stands.dropLast.reverse
        rw [e]; rfl
    · rw [if_neg (by show ¬ s.stands.dropLast.isEmpty = true; simpa using e)]
      have hlast : top { push s with stands := (push s).stands.dropLast } ∈ s.stands.dropLast := by
        have := stands_top (s := { push s with stands := (push s).stands.dropLast }) e
        have h2 : top { push s with stands := (push s).stands.dropLast } ∈ ({ push s with stands := (push s).stands.dropLast } : Rs).stands := by rw [this]; simp
        exact h2
      have hcall := W.low _ hlast
      obtain ⟨q1, q2, q3, q4⟩ := along_ok bs (s := { push s with stands := (push s).stands.dropLast }) e W2 g1 (br := 0) (by
        cases z : tkAt bs (top { push s with stands := (push s).stands.dropLast }) with
        | st s => simp [brs]
        | _ => rw [z] at hcall; cases hcall)
      refine ⟨q1, S.vals, S.said, ?_, ?_⟩
      · show c.still - 1 = (along bs { push s with stands := (push s).stands.dropLast } 0).stands.length
        rw [q2]
        show c.still - 1 = s.stands.dropLast.length
        rw [S.still]; omega
      · show [] ++ low bs s.stands.dropLast.reverse = _
        rw [show stk bs (along bs { push s with stands := (push s).stands.dropLast } 0).stands.reverse = _ from q4, List.nil_append]
        have := stands_top (s := { push s with stands := (push s).stands.dropLast }) e
        conv => lhs; rw [show s.stands.dropLast = _ from this]
        rw [List.reverse_append]; rfl
  | st st =>
    cases st with
    | set i z =>
      rw [ekat]
      have W2 : Wf bs C { push s with hold := (push s).hold.set i (val z (push s).hold) } := ⟨W1.few, W1.at_, W1.low, by show (s.hold.set i _).length = C; rw [List.length_set]; exact W.hold, W1.sp, W1.gn⟩
      obtain ⟨q1, q2, q3, q4⟩ := along_ok bs (s := { push s with hold := (push s).hold.set i (val z (push s).hold) }) hs W2 g1 (br := 0) (by rw [show top { push s with hold := (push s).hold.set i (val z (push s).hold) } = top s from rfl, etk, ekat]; simp [tkOf, brs])
      refine ⟨q1, ?_⟩
      unfold nxt
      rw [hstk]
      refine ⟨?_, S.said, ?_, ?_⟩
      · show c.vals.set i (val z c.vals) = s.hold.set i (val z s.hold)
        rw [S.vals]
      · show c.still = (along bs { push s with hold := (push s).hold.set i (val z (push s).hold) } 0).stands.length
        rw [q2]; exact S.still
      · show k ++ _ = stk bs (along bs { push s with hold := (push s).hold.set i (val z (push s).hold) } 0).stands.reverse
        rw [q4, show top { push s with hold := (push s).hold.set i (val z (push s).hold) } = top s from rfl, ekat]; rfl
    | say z =>
      rw [ekat]
      have W2 : Wf bs C { push s with spoken := (push s).spoken ++ [val z (push s).hold] } := ⟨W1.few, W1.at_, W1.low, W.hold, by show (s.spoken ++ [_]).length ≤ _; rw [List.length_append, List.length_singleton]; exact p1, W1.gn⟩
      obtain ⟨q1, q2, q3, q4⟩ := along_ok bs (s := { push s with spoken := (push s).spoken ++ [val z (push s).hold] }) hs W2 g1 (br := 0) (by rw [show top { push s with spoken := (push s).spoken ++ [val z (push s).hold] } = top s from rfl, etk, ekat]; simp [tkOf, brs])
      refine ⟨q1, ?_⟩
      unfold nxt
      rw [hstk]
      refine ⟨S.vals, ?_, ?_, ?_⟩
      · show c.said ++ [val z c.vals] = s.spoken ++ [val z s.hold]
        rw [S.vals, S.said]
      · show c.still = (along bs { push s with spoken := (push s).spoken ++ [val z (push s).hold] } 0).stands.length
        rw [q2]; exact S.still
      · show k ++ _ = stk bs (along bs { push s with spoken := (push s).spoken ++ [val z (push s).hold] } 0).stands.reverse
        rw [q4, show top { push s with spoken := (push s).spoken ++ [val z (push s).hold] } = top s from rfl, ekat]; rfl
    | call r =>
      rw [ekat] at hokt hf
      have hr : r < bs.length := hokt.1
      have hlen : s.stands.length < 20 := by
        have := W.few
        have h2 : ¬ s.stands.length = 20 := fun z => hf ⟨z, rfl⟩
        omega
      rw [ekat]
      show Wf bs C { push s with stands := (push s).stands ++ [(r, 0)] } ∧ Sim bs { push s with stands := (push s).stands ++ [(r, 0)] } (nxt bs c)
      refine ⟨⟨?_, fun rp h => ?_, fun rp h => ?_, W.hold, W1.sp, W1.gn⟩, ?_⟩
      · show (s.stands ++ [(r, 0)]).length ≤ 20
        rw [List.length_append, List.length_singleton]; omega
      · rcases List.mem_append.mp (show rp ∈ s.stands ++ [(r, 0)] from h) with h | h
        · exact W.at_ rp h
        · rw [List.mem_singleton] at h; subst h
          exact ⟨hr, by show 0 < _; rw [plan_len]; omega⟩
      · have h' : rp ∈ (s.stands ++ [(r, 0)]).dropLast := h
        rw [List.dropLast_concat, stands_top hs] at h'
        rcases List.mem_append.mp h' with h' | h'
        · exact W.low rp h'
        · rw [List.mem_singleton] at h'; subst h'
          rw [etk, ekat]; rfl
      · unfold nxt
        rw [hstk]
        refine ⟨S.vals, S.said, ?_, ?_⟩
        · show c.still + 1 = (s.stands ++ [(r, 0)]).length
          rw [List.length_append, List.length_singleton, S.still]
        · show .bg :: ((bs.getD r []).map .st ++ .en :: (k ++ low bs s.stands.dropLast.reverse)) = stk bs (s.stands ++ [(r, 0)]).reverse
          rw [List.reverse_append]
          show _ = kat (bod bs r) 0 ++ low bs s.stands.reverse
          have e0 : kat (bod bs r) 0 = .bg :: ((bod bs r).map .st ++ [.en]) := by
            unfold kat
            rw [List.getD_eq_getElem?_getD, Kk_zero]; rfl
          rw [e0]
          have e1 : low bs s.stands.reverse = k ++ low bs s.stands.dropLast.reverse := by
            conv => lhs; rw [stands_top hs]
            rw [List.reverse_append]
            show cont 0 (kat (bod bs (top s).1) (top s).2) ++ low bs _ = _
            rw [ekat]; rfl
          rw [e1]
          simp [bod]
    | ifs w a b x y =>
      rw [ekat]
      obtain ⟨q1, q2, q3, q4⟩ := along_ok bs hs1 W1 g1 (br := if tst w a b s.hold then 0 else 1) (by
        rw [show top (push s) = top s from rfl, etk, ekat]
        by_cases z : tst w a b s.hold = true <;> simp [tkOf, brs, z])
      refine ⟨q1, ?_⟩
      unfold nxt
      rw [hstk]
      refine ⟨S.vals, S.said, ?_, ?_⟩
      · show c.still = (along bs (push s) (if tst w a b s.hold then 0 else 1)).stands.length
        rw [q2]; exact S.still
      · show (if tst w a b c.vals then x else y).map .st ++ .jn :: (k ++ _) = stk bs (along bs (push s) (if tst w a b s.hold then 0 else 1)).stands.reverse
        rw [q4, show top (push s) = top s from rfl, ekat, S.vals]
        by_cases z : tst w a b s.hold = true <;> simp [cont, z] <;> rfl
    | whl w a b x =>
      rw [ekat]
      obtain ⟨q1, q2, q3, q4⟩ := along_ok bs hs1 W1 g1 (br := if tst w a b s.hold then 0 else 1) (by
        rw [show top (push s) = top s from rfl, etk, ekat]
        by_cases z : tst w a b s.hold = true <;> simp [tkOf, brs, z])
      refine ⟨q1, ?_⟩
      unfold nxt
      rw [hstk]
      refine ⟨S.vals, S.said, ?_, ?_⟩
      · show c.still = (along bs (push s) (if tst w a b s.hold then 0 else 1)).stands.length
        rw [q2]; exact S.still
      · show (if tst w a b c.vals then x.map .st ++ .st (.whl w a b x) :: (k ++ _) else k ++ _) = stk bs (along bs (push s) (if tst w a b s.hold then 0 else 1)).stands.reverse
        rw [q4, show top (push s) = top s from rfl, ekat, S.vals]
        by_cases z : tst w a b s.hold = true <;> simp [cont, z] <;> rfl
theorem isCall_tk {b : List Stm} {p : Nat} {l : List Fe} (h : p < (plan b).tasks.length) : isCall (kat b p ++ l) = tkCall (tkOf (kat b p)) := by
  obtain ⟨f, k, e⟩ := kat_head h
  rw [e]
  cases f with
  | st s => cases s <;> rfl
  | _ => rfl
theorem word_stop {C : Nat} {s : Rs} {c : Cfg} (W : Wf bs C s) (S : Sim bs s c) : word bs s = (if c.stk.isEmpty then "over" else if flt c then "fault" else "runs") := by
  unfold word
  by_cases e : s.stands = []
  · have : c.stk = [] := by rw [S.stk, e]; rfl
    rw [e, this]; rfl
  · have ht : top s ∈ s.stands := by rw [stands_top e]; simp
    obtain ⟨a1, a2⟩ := W.at_ _ ht
    have h2 : c.stk = kat (bod bs (top s).1) (top s).2 ++ low bs s.stands.dropLast.reverse := by rw [S.stk, stk_top bs e]
    have h3 : c.stk.isEmpty = false := by
      obtain ⟨f, k, q⟩ := kat_head a2
      rw [h2, q]; rfl
    rw [h3, if_neg (by simpa using e), if_neg Bool.false_ne_true]
    have h4 : flt c = (decide (s.stands.length = 20) && tkCall (tkAt bs (top s))) := by
      unfold flt
      rw [h2, isCall_tk a2, S.still, tkAt_kat bs a2, Bool.and_comm]
    rw [h4]
/-- so many steps, while it runs -/
def goR : Nat → Rs → Rs
  | 0, s => s
  | n + 1, s => if word bs s = "runs" then goR n (stepR bs s) else s
theorem go_ok {C : Nat} (hok : ∀ b ∈ bs, okB C bs.length b) : ∀ (n : Nat) {s : Rs} {c : Cfg}, Wf bs C s → Sim bs s c → Wf bs C (goR bs n s) ∧ Sim bs (goR bs n s) (runN bs n c)
  | 0, s, c, W, S => ⟨W, S⟩
  | n + 1, s, c, W, S => by
    have hw := word_stop bs W S
    unfold goR runN stop
    by_cases e : c.stk.isEmpty = true
    · rw [if_pos e] at hw
      rw [hw, if_neg (by decide), e, Bool.true_or, if_pos rfl]
      exact ⟨W, S⟩
    · rw [if_neg e] at hw
      have e' : c.stk.isEmpty = false := by simpa using e
      rw [e', Bool.false_or]
      by_cases f : flt c = true
      · rw [if_pos f] at hw
        rw [hw, if_neg (by decide), f, if_pos rfl]
        exact ⟨W, S⟩
      · rw [if_neg f] at hw
        rw [if_pos hw, if_neg f]
        obtain ⟨W1, S1⟩ := step_ok bs hw W S hok
        exact go_ok hok n W1 S1
end
end Bk
set_option Elab.async false
set_option linter.all false
set_option maxRecDepth 100000
set_option maxHeartbeats 4000000
namespace Cl
open PySem PySem.Spec PyProof.Rows L2 Ab
def topS (i : Nat) : Stmt := PySem.Challenge.pw_bigcorners_k34_whole_runs_by_the_text_al.main.body.getD i (.Pass ⟨0, 0, 0, 0⟩)
def clsS (i j : Nat) : Stmt := match topS i with
  | .ClassDef _ _ _ body _ _ _ _ _ _ _ => body.getD j (.Pass ⟨0, 0, 0, 0⟩)
  | _ => .Pass ⟨0, 0, 0, 0⟩
theorem _root_.Ab.CxA.tr {X : Cx} {k : Nat} (h : CxA X k) (pn : List (Addr × Obj)) (xe : Value → Shared → Prop) (ho : PassesOwn (model X.prog X.w) X.A X.env xe) : CxA (X.tr pn xe) k := ⟨h.calm, h.nd, ho, h.hr⟩

/-- the errors that are raised, and what they are -/
def exT : List (Str × Str × Bool) := []
def isx (h : Str) (x : Ex) : Option Bool := if x.d = none then look exT x.c h else none
structure Txt (P : Program) (w : World) (K : PySem.W.Frag) (mg : Str → Option Value) (base : Heap) (g : Glb) : Prop where
  b_abs : mg "abs" = none
  b_all : mg "all" = none
  b_bool : mg "bool" = none
  b_enumerate : mg "enumerate" = none
  b_int : mg "int" = none
  b_isinstance : mg "isinstance" = none
  b_len : mg "len" = none
  b_list : mg "list" = none
  b_max : mg "max" = none
  b_min : mg "min" = none
  b_range : mg "range" = none
  b_sorted : mg "sorted" = none
  b_str : mg "str" = none
  b_sum : mg "sum" = none
  b_tuple : mg "tuple" = none
  b_zip : mg "zip" = none
  c_MOST_CELLS : ∃ t, mg "MOST_CELLS" = some (.int 4 t)
  c_MOST_ROUTINES : ∃ t, mg "MOST_ROUTINES" = some (.int 5 t)
  c_MOST_DEEP : ∃ t, mg "MOST_DEEP" = some (.int 8 t)
  c_MOST_ROUTINE_PLACES : ∃ t, mg "MOST_ROUTINE_PLACES" = some (.int 40 t)
  c_MOST_MULTIPLE : ∃ t, mg "MOST_MULTIPLE" = some (.int 1000 t)
  c_MOST_STEPS : ∃ t, mg "MOST_STEPS" = some (.int 5000 t)
  c_MOST_ROUTINES_BEGUN : ∃ t, mg "MOST_ROUTINES_BEGUN" = some (.int 20 t)
  cls_Book : Cls K (g.ca "Book")
  cls_Plan : Cls K (g.ca "Plan")
  cls_Runner : Cls K (g.ca "Runner")
  nf_cells : NoAttr K (g.ca "Book") "cells"
  nf_routines : NoAttr K (g.ca "Book") "routines"
  nf_coming : NoAttr K (g.ca "Plan") "coming"
  nf_tasks : NoAttr K (g.ca "Plan") "tasks"
  nf_ways : NoAttr K (g.ca "Plan") "ways"
  nf_book : NoAttr K (g.ca "Runner") "book"
  nf_gone : NoAttr K (g.ca "Runner") "gone"
  nf_holding : NoAttr K (g.ca "Runner") "holding"
  nf_marks : NoAttr K (g.ca "Runner") "marks"
  nf_past : NoAttr K (g.ca "Runner") "past"
  nf_plans : NoAttr K (g.ca "Runner") "plans"
  nf_spoken : NoAttr K (g.ca "Runner") "spoken"
  nf_stands : NoAttr K (g.ca "Runner") "stands"
  g_BadBook : mg "BadBook" = some (.ref (g.ca "BadBook"))
  g_NoContents : mg "NoContents" = some (.ref (g.ca "NoContents"))
  g_NoNumber : mg "NoNumber" = some (.ref (g.ca "NoNumber"))
  g_NotRunning : mg "NotRunning" = some (.ref (g.ca "NotRunning"))
  er_BadBook : Er1 P w K mg base g "BadBook" "part"
  er_NoContents : Er0 P w K mg base g "NoContents"
  er_NoNumber : Er0 P w K mg base g "NoNumber"
  er_NotRunning : Er0 P w K mg base g "NotRunning"
noncomputable def a_law_draw : AS :=
  sSeq (sIf (tAn (tVal (eOp dEq (eOp dIx (eVar 0) (eC (.int 2))) (eC (.int 0)))) (tVal (eOp dLt (eOp dIx (eVar 0) (eC (.int 1))) (eCall bLen (aCons (eOp dIx (eVar 0) (eC (.int 0))) (aNil))))))
    (sSeq (sAsg (eOp dIx (eOp dIx (eVar 0) (eC (.int 0))) (eOp dIx (eVar 0) (eC (.int 1)))) (gN 2))
    (sSeq (sAsg (eOp dAdd (eOp dIx (eVar 0) (eC (.int 1))) (eC (.int 1))) (gS dSet (eVar 0) (eC (.int 1))))
    (sSeq (sAsg (eOp dMod (eCall bInt (aCons (eOp dAdd (eOp dAdd (eOp dMul (eOp dIx (eVar 0) (eC (.int 3))) (eC (.int 69621))) (eVar 2)) (eC (.int 11))) (aNil))) (eC (.int 2147483629))) (gS dSet (eVar 0) (eC (.int 3))))
    (sIf (tVal (eOp dGe (eVar 2) (eOp dPow (eC (.int 10)) (eC (.int 18)))))
    (sAsg (eVar 2) (gS dSet (eVar 0) (eC (.int 2))))
    (sSkip)))))
    (sSkip))
    (sSeq (sIf (tVal (eOp dGt (eOp dIx (eVar 0) (eC (.int 2))) (eC (.int 0))))
    (sSeq (sAsg (eOp dMod (eCall bInt (aCons (eOp dIx (eVar 0) (eC (.int 2))) (aNil))) (eVar 1)) (gN 3))
    (sSeq (sAsg (eOp dFdiv (eOp dIx (eVar 0) (eC (.int 2))) (eVar 1)) (gS dSet (eVar 0) (eC (.int 2))))
    (sRet (eVar 3))))
    (sSkip))
    (sSeq (sAsg (eOp dAdd (eOp dIx (eVar 0) (eC (.int 4))) (eC (.int 1))) (gS dSet (eVar 0) (eC (.int 4))))
    (sSeq (sAsg (eOp dMod (eCall bInt (aCons (eOp dMul (eCall bInt (aCons (eOp dAdd (eOp dIx (eVar 0) (eC (.int 3))) (eOp dMul (eC (.int 7919)) (eOp dIx (eVar 0) (eC (.int 4))))) (aNil))) (eC (.int 48271))) (aNil))) (eC (.int 2147483647))) (gN 4))
    (sSeq (sAsg (eOp dMod (eCall bInt (aCons (eOp dMul (eVar 4) (eOp dAdd (eOp dFdiv (eVar 4) (eC (.int 1009))) (eC (.int 69621)))) (aNil))) (eC (.int 2147483647))) (gN 4))
    (sSeq (sAsg (eOp dMod (eCall bInt (aCons (eOp dMul (eVar 4) (eOp dAdd (eOp dFdiv (eVar 4) (eC (.int 2003))) (eC (.int 40692)))) (aNil))) (eC (.int 2147483399))) (gN 4))
    (sRet (eOp dMod (eCall bInt (aCons (eOp dFdiv (eVar 4) (eC (.int 16))) (aNil))) (eVar 1))))))))
noncomputable def f_law_draw : AF := afOf 5 a_law_draw
noncomputable def a_law_any : AS :=
  sRet (eOp dIx (eVar 1) (eCall f_law_draw (aCons (eVar 0) (aCons (eCall bLen (aCons (eVar 1) (aNil))) (aNil)))))
noncomputable def f_law_any : AF := afOf 2 a_law_any
noncomputable def a_law_begins : AS :=
  sRet (eCall bTuple (aCons (eLc (iA rng1 (aCons (eVar 1) (aNil))) (gN 2) (tYesA) (eCall f_law_any (aCons (eVar 0) (aCons (eCall mkLst (aCons (eC (.int 0)) (aCons (eC (.int 1)) (aCons (eC (.int 2)) (aCons (eC (.int 3)) (aCons (eC (.int 5)) (aCons (eUn dNeg (eC (.int 1))) (aCons (eUn dNeg (eC (.int 4))) (aCons (eC (.int 12)) (aCons (eOp dPow (eC (.int 10)) (eC (.int 19))) (aNil))))))))))) (aNil)))) [2]) (aNil)))
noncomputable def f_law_begins : AF := afOf 3 a_law_begins
noncomputable def a_law_hand : AS :=
  sSeq (sAsg (eLc (iE (eSl (eVar 0) (oNone) (oSome (eC (.int 63))))) (gN 2) (tYesA) (eCall bAbs (aCons (eCall bInt (aCons (eVar 2) (aNil))) (aNil))) [2]) (gN 1))
    (sRet (eCall mkLst (aCons (eVar 1) (aCons (eC (.int 0)) (aCons (eC (.int 0)) (aCons (eOp dAdd (eC (.int 1)) (eCall bLen (aCons (eVar 1) (aNil)))) (aCons (eC (.int 0)) (aNil))))))))
noncomputable def f_law_hand : AF := afOf 3 a_law_hand
noncomputable def a_law_is (r_law_is : AF) : AS :=
  sSeq (sIf (tVal (eIsi2 "tuple" "list" (eVar 1)))
    (sSeq (sIf (tOrr (tVal (eOp dNe (eIsi "tuple" (eVar 0)) (eIsi "tuple" (eVar 1)))) (tNt (tVal (eIsi2 "tuple" "list" (eVar 0)))))
    (sRet (eC (.bl false)))
    (sSkip))
    (sRet (eAnd (eOp dEq (eCall bLen (aCons (eVar 0) (aNil))) (eCall bLen (aCons (eVar 1) (aNil)))) (eCall (bAll true) (aCons (eLc (iA zpp (aCons (eVar 0) (aCons (eVar 1) (aNil)))) (gT 2 (gsCons (gN 2) (gsCons (gN 3) (gsNil)))) (tYesA) (eCall r_law_is (aCons (eVar 2) (aCons (eVar 3) (aNil)))) [2, 3]) (aNil))))))
    (sSkip))
    (sRet (eAnd (eOp dEq (eIsi "bool" (eVar 0)) (eIsi "bool" (eVar 1))) (eOp dEq (eVar 0) (eVar 1))))
noncomputable def F_law_is : Nat → Nat → AF
  | 0, _ => fun _ _ => .no
  | n + 1, _ => afOf 4 (a_law_is (F_law_is n 0))
noncomputable def f_law_is (n : Nat) : AF := F_law_is n 0
theorem f_law_is_succ (n : Nat) : f_law_is (n + 1) = afOf 4 (a_law_is (f_law_is n)) := rfl
noncomputable def a_law_size (r_law_size : AF) : AS :=
  sSeq (sAsg (eC (.int 0)) (gN 1))
    (sSeq (sFor (iE (eVar 0)) (gN 2)
    (sSeq (sAsg (eLc (iE (eSl (eVar 2) (oSome (eC (.int 2))) (oNone))) (gN 4) (tVal (eOp dIn (eOp dIx (eVar 2) (eC (.int 0))) (eCall mkLst (aCons (eC (.str "if")) (aCons (eC (.str "while")) (aNil)))))) (eVar 4) [4]) (gN 3))
    (sAsg (eOp dAdd (eOp dAdd (eVar 1) (eIf (tVal (eOp dEq (eOp dIx (eVar 2) (eC (.int 0))) (eC (.str "if")))) (eC (.int 2)) (eC (.int 1)))) (eCall bSumB (aCons (eLc (iE (eVar 3)) (gN 4) (tYesA) (eCall r_law_size (aCons (eVar 4) (aNil))) [4]) (aNil)))) (gN 1))))
    (sRet (eVar 1)))
noncomputable def F_law_size : Nat → Nat → AF
  | 0, _ => fun _ _ => .no
  | n + 1, _ => afOf 5 (a_law_size (F_law_size n 0))
noncomputable def f_law_size (n : Nat) : AF := F_law_size n 0
theorem f_law_size_succ (n : Nat) : f_law_size (n + 1) = afOf 5 (a_law_size (f_law_size n)) := rfl
noncomputable def a_law_alone : AS :=
  sRet (eOp dAdd (eCall bTuple (aCons (eLc (iA rng1 (aCons (eVar 0) (aNil))) (gN 3) (tYesA) (eCall bInt (aCons (eOp dEq (eVar 3) (eVar 1)) (aNil))) [3]) (aNil))) (eCall mkTup (aCons (eVar 2) (aNil))))
noncomputable def f_law_alone : AF := afOf 4 a_law_alone
noncomputable def a_law_sum : AS :=
  sSeq (sAsg (eCall mkLst (aCons (eC (.int 0)) (aCons (eC (.int 0)) (aCons (eC (.int 1)) (aCons (eUn dNeg (eC (.int 1))) (aCons (eC (.int 2)) (aCons (eUn dNeg (eC (.int 2))) (aCons (eC (.int 3)) (aCons (eC (.int 1000)) (aCons (eUn dNeg (eC (.int 1000))) (aCons (eC (.int 7)) (aNil)))))))))))) (gN 2))
    (sRet (eCall bTuple (aCons (eLc (iA rng1 (aCons (eOp dAdd (eVar 1) (eC (.int 1))) (aNil))) (gN 3) (tYesA) (eOp dIx (eVar 2) (eCall f_law_draw (aCons (eVar 0) (aCons (eCall f_law_any (aCons (eVar 0) (aCons (eCall mkLst (aCons (eC (.int 3)) (aCons (eC (.int 5)) (aCons (eC (.int 7)) (aCons (eC (.int 10)) (aNil)))))) (aNil)))) (aNil))))) [3]) (aNil))))
noncomputable def f_law_sum : AF := afOf 4 a_law_sum
noncomputable def a_law_test : AS :=
  sRet (eCall mkTup (aCons (eCall f_law_any (aCons (eVar 0) (aCons (eCall mkLst (aCons (eC (.str "less")) (aCons (eC (.str "less")) (aCons (eC (.str "same")) (aNil))))) (aNil)))) (aCons (eCall f_law_sum (aCons (eVar 0) (aCons (eVar 1) (aNil)))) (aCons (eCall f_law_sum (aCons (eVar 0) (aCons (eVar 1) (aNil)))) (aNil)))))
noncomputable def f_law_test : AF := afOf 2 a_law_test
noncomputable def a_law_statement (r_law_body : AF) : AS :=
  sSeq (sPar2 4 5 (aCons (eCall f_law_draw (aCons (eVar 0) (aCons (eC (.int 10)) (aNil)))) (aCons (eCall f_law_draw (aCons (eVar 0) (aCons (eVar 1) (aNil)))) (aNil))))
    (sSeq (sIf (tVal (eOp dLt (eVar 4) (eC (.int 2))))
    (sRet (eCall mkTup (aCons (eC (.str "set")) (aCons (eVar 5) (aCons (eCall f_law_sum (aCons (eVar 0) (aCons (eVar 1) (aNil)))) (aNil))))))
    (sSkip))
    (sSeq (sIf (tVal (eOp dLt (eVar 4) (eC (.int 4))))
    (sRet (eCall mkTup (aCons (eC (.str "say")) (aCons (eCall f_law_sum (aCons (eVar 0) (aCons (eVar 1) (aNil)))) (aNil)))))
    (sSkip))
    (sSeq (sIf (tVal (eOp dEq (eVar 4) (eC (.int 4))))
    (sRet (eCall mkTup (aCons (eC (.str "call")) (aCons (eCall f_law_draw (aCons (eVar 0) (aCons (eVar 2) (aNil)))) (aNil)))))
    (sSkip))
    (sSeq (sIf (tOrr (tVal (eOp dGt (eVar 3) (eC (.int 7)))) (tVal (eOp dEq (eVar 4) (eC (.int 5)))))
    (sRet (eCall mkTup (aCons (eC (.str "set")) (aCons (eVar 5) (aCons (eCall f_law_alone (aCons (eVar 1) (aCons (eVar 5) (aCons (eCall f_law_any (aCons (eVar 0) (aCons (eCall mkLst (aCons (eUn dNeg (eC (.int 1))) (aCons (eC (.int 1)) (aCons (eC (.int 2)) (aCons (eUn dNeg (eC (.int 3))) (aNil)))))) (aNil)))) (aNil))))) (aNil))))))
    (sSkip))
    (sSeq (sIf (tVal (eOp dLt (eVar 4) (eC (.int 8))))
    (sSeq (sAsg (eCall r_law_body (aCons (eVar 0) (aCons (eVar 1) (aCons (eVar 2) (aCons (eOp dAdd (eVar 3) (eC (.int 1))) (aNil)))))) (gN 6))
    (sRet (eCall mkTup (aCons (eC (.str "if")) (aCons (eCall f_law_test (aCons (eVar 0) (aCons (eVar 1) (aNil)))) (aCons (eVar 6) (aCons (eCall r_law_body (aCons (eVar 0) (aCons (eVar 1) (aCons (eVar 2) (aCons (eOp dAdd (eVar 3) (eC (.int 1))) (aNil)))))) (aNil))))))))
    (sSkip))
    (sSeq (sAsg (eCall r_law_body (aCons (eVar 0) (aCons (eVar 1) (aCons (eVar 2) (aCons (eOp dAdd (eVar 3) (eC (.int 1))) (aNil)))))) (gN 6))
    (sSeq (sIf (tVal (eOp dEq (eVar 4) (eC (.int 8))))
    (sRet (eCall mkTup (aCons (eC (.str "while")) (aCons (eCall f_law_test (aCons (eVar 0) (aCons (eVar 1) (aNil)))) (aCons (eVar 6) (aNil))))))
    (sSkip))
    (sSeq (sAsg (eOp dMulT (eCall mkTup (aCons (eC (.int 0)) (aNil))) (eOp dAdd (eVar 1) (eC (.int 1)))) (gN 7))
    (sRet (eCall mkTup (aCons (eC (.str "while")) (aCons (eCall mkTup (aCons (eC (.str "less")) (aCons (eVar 7) (aCons (eCall f_law_alone (aCons (eVar 1) (aCons (eVar 5) (aCons (eC (.int 0)) (aNil))))) (aNil))))) (aCons (eOp dAdd (eVar 6) (eCall mkTup (aCons (eCall mkTup (aCons (eC (.str "set")) (aCons (eVar 5) (aCons (eCall f_law_alone (aCons (eVar 1) (aCons (eVar 5) (aCons (eUn dNeg (eC (.int 1))) (aNil))))) (aNil))))) (aNil)))) (aNil))))))))))))))
noncomputable def a_law_body (r_law_statement : AF) : AS :=
  sSeq (sAsg (eCall mkTup (aNil)) (gN 4))
    (sSeq (sFor (iA rng1 (aCons (eCall f_law_draw (aCons (eVar 0) (aCons (eOp dSub (eC (.int 5)) (eCall bMin (aCons (eC (.int 3)) (aCons (eOp dFdiv (eVar 3) (eC (.int 2))) (aNil))))) (aNil)))) (aNil))) (gN 5)
    (sAsg (eOp dAdd (eVar 4) (eCall mkTup (aCons (eCall r_law_statement (aCons (eVar 0) (aCons (eVar 1) (aCons (eVar 2) (aCons (eVar 3) (aNil)))))) (aNil)))) (gN 4)))
    (sRet (eIf (tVal (eOp dLt (eCall (f_law_size 20) (aCons (eVar 4) (aNil))) (eC (.int 37)))) (eVar 4) (eIf (tVal (eOp dLt (eCall (f_law_size 20) (aCons (eSl (eVar 4) (oNone) (oSome (eC (.int 1)))) (aNil))) (eC (.int 37)))) (eSl (eVar 4) (oNone) (oSome (eC (.int 1)))) (eCall mkTup (aNil))))))
noncomputable def F_law_statement : Nat → Nat → AF
  | 0, _ => fun _ _ => .no
  | n + 1, 0 => afOf 8 (a_law_statement (F_law_statement n 1))
  | n + 1, _ => afOf 6 (a_law_body (F_law_statement n 0))
noncomputable def f_law_statement (n : Nat) : AF := F_law_statement n 0
noncomputable def f_law_body (n : Nat) : AF := F_law_statement n 1
theorem f_law_statement_succ (n : Nat) : f_law_statement (n + 1) = afOf 8 (a_law_statement (f_law_body n)) := rfl
theorem f_law_body_succ (n : Nat) : f_law_body (n + 1) = afOf 6 (a_law_body (f_law_statement n)) := rfl
noncomputable def a_law_parts : AS :=
  sSeq (sPar3 1 2 3 (aCons (eOp dAdd (eC (.int 1)) (eCall f_law_draw (aCons (eVar 0) (aCons (eC (.int 4)) (aNil))))) (aCons (eOp dAdd (eC (.int 1)) (eCall f_law_draw (aCons (eVar 0) (aCons (eC (.int 5)) (aNil))))) (aCons (eCall mkTup (aNil)) (aNil)))))
    (sSeq (sFor (iA rng1 (aCons (eVar 2) (aNil))) (gN 4)
    (sSeq (sAsg (eCall (f_law_body 20) (aCons (eVar 0) (aCons (eVar 1) (aCons (eVar 2) (aCons (eC (.int 1)) (aNil)))))) (gN 5))
    (sAsg (eOp dAdd (eVar 3) (eCall mkTup (aCons (eVar 5) (aNil)))) (gN 3))))
    (sRet (eCall mkTup (aCons (eVar 1) (aCons (eVar 3) (aNil))))))
noncomputable def f_law_parts : AF := afOf 6 a_law_parts
noncomputable def a_law_value : AS :=
  sSeq (sAsg (eOp dIx (eVar 0) (eUn dNeg (eC (.int 1)))) (gN 2))
    (sSeq (sFor (iA zpp (aCons (eVar 0) (aCons (eVar 1) (aNil)))) (gT 2 (gsCons (gN 3) (gsCons (gN 4) (gsNil))))
    (sAsg (eOp dAdd (eVar 2) (eOp dMul (eVar 3) (eVar 4))) (gN 2)))
    (sRet (eVar 2)))
noncomputable def f_law_value : AF := afOf 5 a_law_value
noncomputable def a_law_test_holds : AS :=
  sSeq (sPar2 2 3 (aCons (eCall f_law_value (aCons (eOp dIx (eVar 0) (eC (.int 1))) (aCons (eVar 1) (aNil)))) (aCons (eCall f_law_value (aCons (eOp dIx (eVar 0) (eC (.int 2))) (aCons (eVar 1) (aNil)))) (aNil))))
    (sRet (eIf (tVal (eOp dEq (eOp dIx (eVar 0) (eC (.int 0))) (eC (.str "less")))) (eOp dLt (eVar 2) (eVar 3)) (eOp dEq (eVar 2) (eVar 3))))
noncomputable def f_law_test_holds : AF := afOf 4 a_law_test_holds
noncomputable def a_law_run : AS :=
  sSeq (sAsg (eCall mkTup (aCons (eCall bList (aCons (eVar 1) (aNil))) (aCons (eCall mkLst (aNil)) (aCons (eC (.int 0)) (aCons (eC (.int 1)) (aNil)))))) (gT 4 (gsCons (gN 3) (gsCons (gN 4) (gsCons (gN 5) (gsCons (gN 6) (gsNil)))))))
    (sSeq (sAsg (eOp dAdd (eOp dAdd (eCall mkLst (aCons (eCall mkTup (aCons (eC (.str "end")) (aNil))) (aNil))) (eRevL (eCall bList (aCons (eOp dIx (eOp dIx (eVar 0) (eC (.int 1))) (eC (.int 0))) (aNil))))) (eCall mkLst (aCons (eCall mkTup (aCons (eC (.str "begin")) (aNil))) (aNil)))) (gN 7))
    (sSeq (sWhile (tAn (tVal (eOp dGt (eCall bLen (aCons (eVar 7) (aNil))) (eC (.int 0)))) (tVal (eOp dLt (eVar 5) (eVar 2))))
    (sSeq (sAsg (eOp dIx (eVar 7) (eUn dNeg (eC (.int 1)))) (gN 8))
    (sSeq (sIf (tAn (tVal (eOp dEq (eOp dIx (eVar 8) (eC (.int 0))) (eC (.str "call")))) (tVal (eOp dEq (eVar 6) (eC (.int 20)))))
    (sRet (eCall mkTup (aCons (eCall bTuple (aCons (eVar 4) (aNil))) (aCons (eC (.str "fault")) (aCons (eCall bTuple (aCons (eVar 3) (aNil))) (aNil))))))
    (sSkip))
    (sSeq (sExp (eMt isL mPop (eVar 7) aNil))
    (sSeq (sAsg (eOp dAdd (eVar 5) (eC (.int 1))) (gN 5))
    (sSeq (sIf (tVal (eOp dEq (eOp dIx (eVar 8) (eC (.int 0))) (eC (.str "set"))))
    (sAsg (eCall f_law_value (aCons (eOp dIx (eVar 8) (eC (.int 2))) (aCons (eVar 3) (aNil)))) (gS dSet (eVar 3) (eOp dIx (eVar 8) (eC (.int 1)))))
    (sIf (tVal (eOp dEq (eOp dIx (eVar 8) (eC (.int 0))) (eC (.str "say"))))
    (sExp (eMt isL mAppend (eVar 4) (aCons (eCall f_law_value (aCons (eOp dIx (eVar 8) (eC (.int 1))) (aCons (eVar 3) (aNil)))) (aNil))))
    (sIf (tVal (eOp dEq (eOp dIx (eVar 8) (eC (.int 0))) (eC (.str "call"))))
    (sSeq (sAsg (eOp dAdd (eVar 6) (eC (.int 1))) (gN 6))
    (sExp (eMt isL mExtend (eVar 7) (aCons (eOp dAdd (eOp dAdd (eCall mkLst (aCons (eCall mkTup (aCons (eC (.str "end")) (aNil))) (aNil))) (eRevL (eCall bList (aCons (eOp dIx (eOp dIx (eVar 0) (eC (.int 1))) (eOp dIx (eVar 8) (eC (.int 1)))) (aNil))))) (eCall mkLst (aCons (eCall mkTup (aCons (eC (.str "begin")) (aNil))) (aNil)))) (aNil)))))
    (sIf (tVal (eOp dEq (eOp dIx (eVar 8) (eC (.int 0))) (eC (.str "if"))))
    (sExp (eMt isL mExtend (eVar 7) (aCons (eOp dAdd (eCall mkLst (aCons (eCall mkTup (aCons (eC (.str "join")) (aNil))) (aNil))) (eRevL (eCall bList (aCons (eOp dIx (eVar 8) (eIf (tVal (eCall f_law_test_holds (aCons (eOp dIx (eVar 8) (eC (.int 1))) (aCons (eVar 3) (aNil))))) (eC (.int 2)) (eC (.int 3)))) (aNil))))) (aNil))))
    (sIf (tAn (tVal (eOp dEq (eOp dIx (eVar 8) (eC (.int 0))) (eC (.str "while")))) (tVal (eCall f_law_test_holds (aCons (eOp dIx (eVar 8) (eC (.int 1))) (aCons (eVar 3) (aNil))))))
    (sExp (eMt isL mExtend (eVar 7) (aCons (eOp dAdd (eCall mkLst (aCons (eVar 8) (aNil))) (eRevL (eCall bList (aCons (eOp dIx (eVar 8) (eC (.int 2))) (aNil))))) (aNil))))
    (sIf (tVal (eOp dEq (eOp dIx (eVar 8) (eC (.int 0))) (eC (.str "end"))))
    (sAsg (eOp dSub (eVar 6) (eC (.int 1))) (gN 6))
    (sSkip)))))))
    (sIf (tVal (eOp dGt (eCall bMax (aCons (eOp dAdd (eLc (iE (eVar 3)) (gN 10) (tYesA) (eCall bAbs (aCons (eVar 10) (aNil))) [10]) (eLc (iE (eSl (eVar 4) (oSome (eUn dNeg (eC (.int 1)))) (oNone))) (gN 11) (tYesA) (eCall bAbs (aCons (eVar 11) (aNil))) [11])) (aNil))) (eOp dPowW (eOp dPow (eC (.int 10)) (eC (.int 50))) (eC (.int 18)))))
    (sRet (eC .non))
    (sSkip))))))))
    (sSeq (sAsg (eAnd (eOp dGt (eCall bLen (aCons (eVar 7) (aNil))) (eC (.int 0))) (eAnd (eOp dEq (eOp dIx (eOp dIx (eVar 7) (eUn dNeg (eC (.int 1)))) (eC (.int 0))) (eC (.str "call"))) (eOp dEq (eVar 6) (eC (.int 20))))) (gN 9))
    (sRet (eCall mkTup (aCons (eCall bTuple (aCons (eVar 4) (aNil))) (aCons (eIf (tVal (eOp dEq (eCall bLen (aCons (eVar 7) (aNil))) (eC (.int 0)))) (eC (.str "over")) (eIf (tVal (eVar 9)) (eC (.str "fault")) (eC (.str "on")))) (aCons (eCall bTuple (aCons (eVar 3) (aNil))) (aNil)))))))))
noncomputable def f_law_run : AF := afOf 12 a_law_run
noncomputable def a_Runner_contents : AS :=
  sRet (eFld "Runner" "holding" (eVar 0))
noncomputable def f_Runner_contents : AF := afOf 1 a_Runner_contents
noncomputable def a_Runner_go_along : AS :=
  sSeq (sAsg (eOp dIx (eFld "Runner" "stands" (eVar 0)) (eUn dNeg (eC (.int 1)))) (gT 2 (gsCons (gN 2) (gsCons (gN 3) (gsNil)))))
    (sSeq (sAsg (eOp dIxT (eFld "Plan" "ways" (eOp dIx (eFld "Runner" "plans" (eVar 0)) (eVar 2))) (eCall mkTup (aCons (eVar 3) (aCons (eVar 1) (aNil))))) (gT 2 (gsCons (gN 4) (gsCons (gN 5) (gsNil)))))
    (sSeq (sExp (eMt isL mAppend (eFld "Runner" "gone" (eVar 0)) (aCons (eCall mkTup (aCons (eVar 2) (aCons (eVar 4) (aNil)))) (aNil))))
    (sFldS "Runner" "stands" (eVar 0) (eOp dAdd (eSl (eFld "Runner" "stands" (eVar 0)) (oNone) (oSome (eUn dNeg (eC (.int 1))))) (eCall mkTup (aCons (eCall mkTup (aCons (eVar 2) (aCons (eVar 5) (aNil)))) (aNil)))))))
noncomputable def f_Runner_go_along : AF := afOf 6 a_Runner_go_along
noncomputable def a_Runner_close_routine : AS :=
  sSeq (sFldS "Runner" "stands" (eVar 0) (eSl (eFld "Runner" "stands" (eVar 0)) (oNone) (oSome (eUn dNeg (eC (.int 1))))))
    (sIf (tTru (eFld "Runner" "stands" (eVar 0)))
    (sExp (eMeth "Runner" "go_along" f_Runner_go_along (eVar 0) (aCons (eC (.int 0)) (aNil))))
    (sSkip))
noncomputable def f_Runner_close_routine : AF := afOf 1 a_Runner_close_routine
noncomputable def a_Runner_set_cell : AS :=
  sFldS "Runner" "holding" (eVar 0) (eOp dAdd (eOp dAdd (eSl (eFld "Runner" "holding" (eVar 0)) (oNone) (oSome (eVar 1))) (eCall mkTup (aCons (eVar 2) (aNil)))) (eSl (eFld "Runner" "holding" (eVar 0)) (oSome (eOp dAdd (eVar 1) (eC (.int 1)))) (oNone)))
noncomputable def f_Runner_set_cell : AF := afOf 3 a_Runner_set_cell
noncomputable def a_Runner_task : AS :=
  sSeq (sAsg (eOp dIx (eFld "Runner" "stands" (eVar 0)) (eUn dNeg (eC (.int 1)))) (gT 2 (gsCons (gN 1) (gsCons (gN 2) (gsNil)))))
    (sRet (eOp dIx (eFld "Plan" "tasks" (eOp dIx (eFld "Runner" "plans" (eVar 0)) (eVar 1))) (eVar 2)))
noncomputable def f_Runner_task : AF := afOf 3 a_Runner_task
noncomputable def a_Runner_total_of : AS :=
  sRet (eOp dAdd (eCall bSumB (aCons (eLc (iA zpp (aCons (eVar 1) (aCons (eFld "Runner" "holding" (eVar 0)) (aNil)))) (gT 2 (gsCons (gN 2) (gsCons (gN 3) (gsNil)))) (tYesA) (eOp dMul (eVar 2) (eVar 3)) [2, 3]) (aNil))) (eOp dIx (eVar 1) (eUn dNeg (eC (.int 1)))))
noncomputable def f_Runner_total_of : AF := afOf 4 a_Runner_total_of
noncomputable def a_Runner_test_holds : AS :=
  sSeq (sPar2 2 3 (aCons (eMeth "Runner" "total_of" f_Runner_total_of (eVar 0) (aCons (eOp dIx (eVar 1) (eC (.int 1))) (aNil))) (aCons (eMeth "Runner" "total_of" f_Runner_total_of (eVar 0) (aCons (eOp dIx (eVar 1) (eC (.int 2))) (aNil))) (aNil))))
    (sSeq (sIf (tVal (eOp dEq (eOp dIx (eVar 1) (eC (.int 0))) (eC (.str "less"))))
    (sRet (eOp dLt (eVar 2) (eVar 3)))
    (sSkip))
    (sRet (eOp dEq (eVar 2) (eVar 3))))
noncomputable def f_Runner_test_holds : AF := afOf 4 a_Runner_test_holds
noncomputable def a_word_of : AS :=
  sSeq (sIf (tVal (eIsi "str" (eVar 0)))
    (sRet (eVar 0))
    (sSkip))
    (sRet (eOp dIx (eVar 0) (eC (.int 0))))
noncomputable def f_word_of : AF := afOf 1 a_word_of
noncomputable def a_Runner_word : AS :=
  sSeq (sIf (tNt (tTru (eFld "Runner" "stands" (eVar 0))))
    (sRet (eC (.str "over")))
    (sSkip))
    (sSeq (sIf (tAn (tVal (eOp dEq (eCall bLen (aCons (eFld "Runner" "stands" (eVar 0)) (aNil))) (eC (.int 20)))) (tVal (eOp dEq (eCall f_word_of (aCons (eMeth "Runner" "task" f_Runner_task (eVar 0) aNil) (aNil))) (eC (.str "call")))))
    (sRet (eC (.str "fault")))
    (sSkip))
    (sRet (eC (.str "runs"))))
noncomputable def f_Runner_word : AF := afOf 1 a_Runner_word
noncomputable def a_Runner_step : AS :=
  sSeq (sIf (tVal (eOp dNe (eMeth "Runner" "word" f_Runner_word (eVar 0) aNil) (eC (.str "runs"))))
    (sRaise0 "NotRunning")
    (sSkip))
    (sSeq (sExp (eMt isL mAppend (eFld "Runner" "past" (eVar 0)) (aCons (eCall mkTup (aCons (eFld "Runner" "stands" (eVar 0)) (aCons (eFld "Runner" "holding" (eVar 0)) (aCons (eCall bLen (aCons (eFld "Runner" "spoken" (eVar 0)) (aNil))) (aCons (eCall bLen (aCons (eFld "Runner" "gone" (eVar 0)) (aNil))) (aNil)))))) (aNil))))
    (sSeq (sAsg (eMeth "Runner" "task" f_Runner_task (eVar 0) aNil) (gN 1))
    (sSeq (sAsg (eCall f_word_of (aCons (eVar 1) (aNil))) (gN 2))
    (sIf (tVal (eOp dEq (eVar 2) (eC (.str "end"))))
    (sExp (eMeth "Runner" "close_routine" f_Runner_close_routine (eVar 0) aNil))
    (sIf (tVal (eOp dEq (eVar 2) (eC (.str "call"))))
    (sFldS "Runner" "stands" (eVar 0) (eOp dAdd (eFld "Runner" "stands" (eVar 0)) (eCall mkTup (aCons (eCall mkTup (aCons (eOp dIx (eVar 1) (eC (.int 1))) (aCons (eC (.int 0)) (aNil)))) (aNil)))))
    (sIf (tVal (eOp dIn (eVar 2) (eCall mkTup (aCons (eC (.str "less")) (aCons (eC (.str "same")) (aNil))))))
    (sExp (eMeth "Runner" "go_along" f_Runner_go_along (eVar 0) (aCons (eIf (tVal (eMeth "Runner" "test_holds" f_Runner_test_holds (eVar 0) (aCons (eVar 1) (aNil)))) (eC (.int 0)) (eC (.int 1))) (aNil))))
    (sSeq (sIf (tVal (eOp dEq (eVar 2) (eC (.str "set"))))
    (sExp (eMeth "Runner" "set_cell" f_Runner_set_cell (eVar 0) (aCons (eOp dIx (eVar 1) (eC (.int 1))) (aCons (eMeth "Runner" "total_of" f_Runner_total_of (eVar 0) (aCons (eOp dIx (eVar 1) (eC (.int 2))) (aNil))) (aNil)))))
    (sIf (tVal (eOp dEq (eVar 2) (eC (.str "say"))))
    (sExp (eMt isL mAppend (eFld "Runner" "spoken" (eVar 0)) (aCons (eMeth "Runner" "total_of" f_Runner_total_of (eVar 0) (aCons (eOp dIx (eVar 1) (eC (.int 1))) (aNil))) (aNil))))
    (sSkip)))
    (sExp (eMeth "Runner" "go_along" f_Runner_go_along (eVar 0) (aCons (eC (.int 0)) (aNil)))))))))))
noncomputable def f_Runner_step : AF := afOf 3 a_Runner_step
noncomputable def a_is_whole : AS :=
  sRet (eAnd (eIsi "int" (eVar 0)) (eNot (eIsi "bool" (eVar 0))))
noncomputable def f_is_whole : AF := afOf 1 a_is_whole
noncomputable def a_is_between : AS :=
  sRet (eAnd (eCall f_is_whole (aCons (eVar 0) (aNil))) (eChain dLe dLe (eVar 1) (eVar 0) (eVar 2)))
noncomputable def f_is_between : AF := afOf 3 a_is_between
noncomputable def a_Runner_go : AS :=
  sSeq (sIf (tNt (tVal (eCall f_is_between (aCons (eVar 1) (aCons (eC (.int 0)) (aCons (eC (.int 5000)) (aNil)))))))
    (sRaise0 "NoNumber")
    (sSkip))
    (sSeq (sAsg (eC (.int 0)) (gN 2))
    (sSeq (sWhile (tAn (tVal (eOp dLt (eVar 2) (eVar 1))) (tVal (eOp dEq (eMeth "Runner" "word" f_Runner_word (eVar 0) aNil) (eC (.str "runs")))))
    (sSeq (sExp (eMeth "Runner" "step" f_Runner_step (eVar 0) aNil))
    (sSeq (sAug 2 (fun i j => i + j) (eC (.int 1)))
    (sIf (tAn (tTru (eFld "Runner" "stands" (eVar 0))) (tVal (eOp dInT (eOp dIx (eFld "Runner" "stands" (eVar 0)) (eUn dNeg (eC (.int 1)))) (eFld "Runner" "marks" (eVar 0)))))
    (sBrk)
    (sSkip)))))
    (sRet (eVar 2))))
noncomputable def f_Runner_go : AF := afOf 3 a_Runner_go
noncomputable def a_Runner_said : AS :=
  sRet (eCall bTuple (aCons (eFld "Runner" "spoken" (eVar 0)) (aNil)))
noncomputable def f_Runner_said : AF := afOf 1 a_Runner_said
noncomputable def a_are_whole : AS :=
  sRet (eCall (bAll true) (aCons (eLc (iE (eVar 0)) (gN 1) (tYesA) (eCall f_is_whole (aCons (eVar 1) (aNil))) [1]) (aNil)))
noncomputable def f_are_whole : AF := afOf 2 a_are_whole
noncomputable def a_is_row : AS :=
  sRet (eAnd (eIsi "tuple" (eVar 0)) (eOp dEq (eCall bLen (aCons (eVar 0) (aNil))) (eVar 1)))
noncomputable def f_is_row : AF := afOf 2 a_is_row
noncomputable def a_Plan_add_place : AS :=
  sSeq (sExp (eMt isL mAppend (eFld "Plan" "tasks" (eVar 0)) (aCons (eVar 1) (aNil))))
    (sSeq (sExp (eMt isL mAppend (eFld "Plan" "coming" (eVar 0)) (aCons (eVar 2) (aNil))))
    (sRet (eOp dSub (eCall bLen (aCons (eFld "Plan" "tasks" (eVar 0)) (aNil))) (eC (.int 1)))))
noncomputable def f_Plan_add_place : AF := afOf 3 a_Plan_add_place
noncomputable def a_Plan_lay (r_Plan_lay_if : AF) (r_Plan_lay_while : AF) : AS :=
  sSeq (sFor (iE (eVar 1)) (gN 3)
    (sIf (tVal (eOp dEq (eOp dIx (eVar 3) (eC (.int 0))) (eC (.str "if"))))
    (sAsg (eMeth "Plan" "lay_if" r_Plan_lay_if (eVar 0) (aCons (eVar 3) (aCons (eVar 2) (aNil)))) (gN 2))
    (sIf (tVal (eOp dEq (eOp dIx (eVar 3) (eC (.int 0))) (eC (.str "while"))))
    (sAsg (eMeth "Plan" "lay_while" r_Plan_lay_while (eVar 0) (aCons (eVar 3) (aCons (eVar 2) (aNil)))) (gN 2))
    (sAsg (eCall mkTup (aCons (eMeth "Plan" "add_place" f_Plan_add_place (eVar 0) (aCons (eVar 3) (aCons (eCall mkLst (aCons (eVar 2) (aNil))) (aNil)))) (aCons (eC (.int 0)) (aNil)))) (gN 2)))))
    (sRet (eVar 2))
noncomputable def a_Plan_lay_if (r_Plan_lay : AF) : AS :=
  sSeq (sAsg (eMeth "Plan" "add_place" f_Plan_add_place (eVar 0) (aCons (eOp dIx (eVar 1) (eC (.int 1))) (aCons (eCall mkLst (aCons (eVar 2) (aNil))) (aNil)))) (gN 3))
    (sSeq (sAsg (eMeth "Plan" "lay" r_Plan_lay (eVar 0) (aCons (eOp dIx (eVar 1) (eC (.int 2))) (aCons (eCall mkTup (aCons (eVar 3) (aCons (eC (.int 0)) (aNil)))) (aNil)))) (gN 4))
    (sSeq (sAsg (eMeth "Plan" "lay" r_Plan_lay (eVar 0) (aCons (eOp dIx (eVar 1) (eC (.int 3))) (aCons (eCall mkTup (aCons (eVar 3) (aCons (eC (.int 1)) (aNil)))) (aNil)))) (gN 5))
    (sRet (eCall mkTup (aCons (eMeth "Plan" "add_place" f_Plan_add_place (eVar 0) (aCons (eC (.str "join")) (aCons (eCall mkLst (aCons (eVar 5) (aCons (eVar 4) (aNil)))) (aNil)))) (aCons (eC (.int 0)) (aNil)))))))
noncomputable def a_Plan_lay_while (r_Plan_lay : AF) : AS :=
  sSeq (sAsg (eMeth "Plan" "add_place" f_Plan_add_place (eVar 0) (aCons (eOp dIx (eVar 1) (eC (.int 1))) (aCons (eCall mkLst (aCons (eVar 2) (aNil))) (aNil)))) (gN 3))
    (sSeq (sAsg (eMeth "Plan" "lay" r_Plan_lay (eVar 0) (aCons (eOp dIx (eVar 1) (eC (.int 2))) (aCons (eCall mkTup (aCons (eVar 3) (aCons (eC (.int 0)) (aNil)))) (aNil)))) (gN 4))
    (sSeq (sExp (eMt isL mAppend (eOp dIx (eFld "Plan" "coming" (eVar 0)) (eVar 3)) (aCons (eVar 4) (aNil))))
    (sRet (eCall mkTup (aCons (eVar 3) (aCons (eC (.int 1)) (aNil)))))))
noncomputable def F_Plan_lay : Nat → Nat → AF
  | 0, _ => fun _ _ => .no
  | n + 1, 0 => afOf 4 (a_Plan_lay (F_Plan_lay n 1) (F_Plan_lay n 2))
  | n + 1, 1 => afOf 6 (a_Plan_lay_if (F_Plan_lay n 0))
  | n + 1, _ => afOf 5 (a_Plan_lay_while (F_Plan_lay n 0))
noncomputable def f_Plan_lay (n : Nat) : AF := F_Plan_lay n 0
noncomputable def f_Plan_lay_if (n : Nat) : AF := F_Plan_lay n 1
noncomputable def f_Plan_lay_while (n : Nat) : AF := F_Plan_lay n 2
theorem f_Plan_lay_succ (n : Nat) : f_Plan_lay (n + 1) = afOf 4 (a_Plan_lay (f_Plan_lay_if n) (f_Plan_lay_while n)) := rfl
theorem f_Plan_lay_if_succ (n : Nat) : f_Plan_lay_if (n + 1) = afOf 6 (a_Plan_lay_if (f_Plan_lay n)) := rfl
theorem f_Plan_lay_while_succ (n : Nat) : f_Plan_lay_while (n + 1) = afOf 5 (a_Plan_lay_while (f_Plan_lay n)) := rfl
noncomputable def a_Plan_init : AS :=
  sSeq (sFldS "Plan" "tasks" (eVar 0) (eCall mkLst (aCons (eC (.str "begin")) (aNil))))
    (sSeq (sFldS "Plan" "coming" (eVar 0) (eCall mkLst (aCons (eCall mkLst (aNil)) (aNil))))
    (sSeq (sExp (eMeth "Plan" "add_place" f_Plan_add_place (eVar 0) (aCons (eC (.str "end")) (aCons (eCall mkLst (aCons (eMeth "Plan" "lay" (f_Plan_lay 20) (eVar 0) (aCons (eVar 1) (aCons (eCall mkTup (aCons (eC (.int 0)) (aCons (eC (.int 0)) (aNil)))) (aNil)))) (aNil))) (aNil)))))
    (sSeq (sAsg (eLc2 (iA enm (aCons (eFld "Plan" "coming" (eVar 0)) (aNil))) (gT 2 (gsCons (gN 3) (gsCons (gN 4) (gsNil)))) (tYesA) (iE (eVar 4)) (gN 5) (tYesA) (eCall mkTup (aCons (eVar 5) (aCons (eVar 3) (aNil)))) [3, 4, 5] [5]) (gN 2))
    (sFldS "Plan" "ways" (eVar 0) (eDcT (iA enm (aCons (eCall bSorted3 (aCons (eVar 2) (aNil))) (aNil))) (gT 2 (gsCons (gN 6) (gsCons (gT 2 (gsCons (gN 5) (gsCons (gN 7) (gsNil)))) (gsNil)))) (tYesA) (eVar 5) (eCall mkTup (aCons (eVar 6) (aCons (eVar 7) (aNil)))) [6, 5, 7])))))
noncomputable def f_Plan_init : AF := afOf 8 a_Plan_init
noncomputable def a_Runner_init : AS :=
  sSeq (sIf (tOrr (tNt (tVal (eCall f_is_row (aCons (eVar 2) (aCons (eFld "Book" "cells" (eVar 1)) (aNil)))))) (tNt (tVal (eCall f_are_whole (aCons (eVar 2) (aNil))))))
    (sRaise0 "NoContents")
    (sSkip))
    (sSeq (sFldS "Runner" "book" (eVar 0) (eVar 1))
    (sSeq (sFldS "Runner" "plans" (eVar 0) (eLc (iE (eFld "Book" "routines" (eVar 1))) (gN 3) (tYesA) (eMk "Plan" f_Plan_init (aCons (eVar 3) (aNil))) [3]))
    (sSeq (sFldS "Runner" "stands" (eVar 0) (eCall mkTup (aCons (eCall mkTup (aCons (eC (.int 0)) (aCons (eC (.int 0)) (aNil)))) (aNil))))
    (sSeq (sFldS "Runner" "holding" (eVar 0) (eCall bTuple (aCons (eVar 2) (aNil))))
    (sSeq (sFldS "Runner" "spoken" (eVar 0) (eCall mkLst (aNil)))
    (sSeq (sFldS "Runner" "gone" (eVar 0) (eCall mkLst (aNil)))
    (sSeq (sFldS "Runner" "past" (eVar 0) (eCall mkLst (aNil)))
    (sFldS "Runner" "marks" (eVar 0) (eCall (fun _ => mkDit []) aNil)))))))))
noncomputable def f_Runner_init : AF := afOf 4 a_Runner_init
noncomputable def a_ran : AS :=
  sSeq (sAsg (eMk "Runner" f_Runner_init (aCons (eVar 0) (aCons (eVar 1) (aNil)))) (gN 3))
    (sSeq (sExp (eMeth "Runner" "go" f_Runner_go (eVar 3) (aCons (eVar 2) (aNil))))
    (sSeq (sAsg (eMeth "Runner" "word" f_Runner_word (eVar 3) aNil) (gN 4))
    (sSeq (sIf (tVal (eOp dEq (eVar 4) (eC (.str "runs"))))
    (sAsg (eC (.str "on")) (gN 4))
    (sSkip))
    (sRet (eCall mkTup (aCons (eMeth "Runner" "said" f_Runner_said (eVar 3) aNil) (aCons (eVar 4) (aCons (eMeth "Runner" "contents" f_Runner_contents (eVar 3) aNil) (aNil)))))))))
noncomputable def f_ran : AF := afOf 5 a_ran
noncomputable def a_is_sum : AS :=
  sRet (eAnd (eCall f_is_row (aCons (eVar 0) (aCons (eOp dAdd (eVar 1) (eC (.int 1))) (aNil)))) (eCall (bAll true) (aCons (eLc (iE (eVar 0)) (gN 2) (tYesA) (eCall f_is_between (aCons (eVar 2) (aCons (eUn dNeg (eC (.int 1000))) (aCons (eC (.int 1000)) (aNil))))) [2]) (aNil))))
noncomputable def f_is_sum : AF := afOf 3 a_is_sum
noncomputable def a_is_test : AS :=
  sSeq (sIf (tOrr (tNt (tVal (eCall f_is_row (aCons (eVar 0) (aCons (eC (.int 3)) (aNil)))))) (tNt (tVal (eIsi "str" (eOp dIx (eVar 0) (eC (.int 0)))))))
    (sRet (eC (.bl false)))
    (sSkip))
    (sRet (eAnd (eOp dIn (eOp dIx (eVar 0) (eC (.int 0))) (eCall mkTup (aCons (eC (.str "less")) (aCons (eC (.str "same")) (aNil))))) (eAnd (eCall f_is_sum (aCons (eOp dIx (eVar 0) (eC (.int 1))) (aCons (eVar 1) (aNil)))) (eCall f_is_sum (aCons (eOp dIx (eVar 0) (eC (.int 2))) (aCons (eVar 1) (aNil)))))))
noncomputable def f_is_test : AF := afOf 2 a_is_test
noncomputable def a_is_body (r_is_statement : AF) : AS :=
  sSeq (sIf (tOrr (tNt (tVal (eIsi "tuple" (eVar 0)))) (tVal (eOp dGt (eVar 1) (eC (.int 8)))))
    (sRet (eC (.bl false)))
    (sSkip))
    (sRet (eCall (bAll true) (aCons (eLc (iE (eVar 0)) (gN 4) (tYesA) (eCall r_is_statement (aCons (eVar 4) (aCons (eVar 1) (aCons (eVar 2) (aCons (eVar 3) (aNil)))))) [4]) (aNil))))
noncomputable def a_is_statement (r_is_body : AF) : AS :=
  sSeq (sIf (tOrr (tNt (tVal (eIsi "tuple" (eVar 0)))) (tOrr (tVal (eOp dEq (eCall bLen (aCons (eVar 0) (aNil))) (eC (.int 0)))) (tNt (tVal (eIsi "str" (eOp dIx (eVar 0) (eC (.int 0))))))))
    (sRet (eC (.bl false)))
    (sSkip))
    (sSeq (sAsg (eOp dIx (eVar 0) (eC (.int 0))) (gN 4))
    (sSeq (sIf (tVal (eOp dEq (eVar 4) (eC (.str "set"))))
    (sRet (eAnd (eOp dEq (eCall bLen (aCons (eVar 0) (aNil))) (eC (.int 3))) (eAnd (eCall f_is_between (aCons (eOp dIx (eVar 0) (eC (.int 1))) (aCons (eC (.int 0)) (aCons (eOp dSub (eVar 2) (eC (.int 1))) (aNil))))) (eCall f_is_sum (aCons (eOp dIx (eVar 0) (eC (.int 2))) (aCons (eVar 2) (aNil)))))))
    (sSkip))
    (sSeq (sIf (tVal (eOp dEq (eVar 4) (eC (.str "say"))))
    (sRet (eAnd (eOp dEq (eCall bLen (aCons (eVar 0) (aNil))) (eC (.int 2))) (eCall f_is_sum (aCons (eOp dIx (eVar 0) (eC (.int 1))) (aCons (eVar 2) (aNil))))))
    (sSkip))
    (sSeq (sIf (tVal (eOp dEq (eVar 4) (eC (.str "call"))))
    (sRet (eAnd (eOp dEq (eCall bLen (aCons (eVar 0) (aNil))) (eC (.int 2))) (eCall f_is_between (aCons (eOp dIx (eVar 0) (eC (.int 1))) (aCons (eC (.int 0)) (aCons (eOp dSub (eVar 3) (eC (.int 1))) (aNil)))))))
    (sSkip))
    (sSeq (sIf (tVal (eOp dEq (eVar 4) (eC (.str "if"))))
    (sAsg (eC (.int 2)) (gN 5))
    (sIf (tVal (eOp dEq (eVar 4) (eC (.str "while"))))
    (sAsg (eC (.int 1)) (gN 5))
    (sRet (eC (.bl false)))))
    (sSeq (sIf (tOrr (tVal (eOp dNe (eCall bLen (aCons (eVar 0) (aNil))) (eOp dAdd (eC (.int 2)) (eVar 5)))) (tNt (tVal (eCall f_is_test (aCons (eOp dIx (eVar 0) (eC (.int 1))) (aCons (eVar 2) (aNil)))))))
    (sRet (eC (.bl false)))
    (sSkip))
    (sRet (eCall (bAll true) (aCons (eLc (iE (eSl (eVar 0) (oSome (eC (.int 2))) (oNone))) (gN 6) (tYesA) (eCall r_is_body (aCons (eVar 6) (aCons (eOp dAdd (eVar 1) (eC (.int 1))) (aCons (eVar 2) (aCons (eVar 3) (aNil)))))) [6]) (aNil))))))))))
noncomputable def F_is_body : Nat → Nat → AF
  | 0, _ => fun _ _ => .no
  | n + 1, 0 => afOf 5 (a_is_body (F_is_body n 1))
  | n + 1, _ => afOf 7 (a_is_statement (F_is_body n 0))
noncomputable def f_is_body (n : Nat) : AF := F_is_body n 0
noncomputable def f_is_statement (n : Nat) : AF := F_is_body n 1
theorem f_is_body_succ (n : Nat) : f_is_body (n + 1) = afOf 5 (a_is_body (f_is_statement n)) := rfl
theorem f_is_statement_succ (n : Nat) : f_is_statement (n + 1) = afOf 7 (a_is_statement (f_is_body n)) := rfl
noncomputable def a_places_in (r_places_in : AF) : AS :=
  sSeq (sAsg (eC (.int 0)) (gN 1))
    (sSeq (sFor (iE (eVar 0)) (gN 2)
    (sIf (tVal (eOp dEq (eOp dIx (eVar 2) (eC (.int 0))) (eC (.str "if"))))
    (sAug 1 (fun i j => i + j) (eOp dAdd (eOp dAdd (eC (.int 2)) (eCall r_places_in (aCons (eOp dIx (eVar 2) (eC (.int 2))) (aNil)))) (eCall r_places_in (aCons (eOp dIx (eVar 2) (eC (.int 3))) (aNil)))))
    (sIf (tVal (eOp dEq (eOp dIx (eVar 2) (eC (.int 0))) (eC (.str "while"))))
    (sAug 1 (fun i j => i + j) (eOp dAdd (eC (.int 1)) (eCall r_places_in (aCons (eOp dIx (eVar 2) (eC (.int 2))) (aNil)))))
    (sAug 1 (fun i j => i + j) (eC (.int 1))))))
    (sRet (eVar 1)))
noncomputable def F_places_in : Nat → Nat → AF
  | 0, _ => fun _ _ => .no
  | n + 1, _ => afOf 3 (a_places_in (F_places_in n 0))
noncomputable def f_places_in (n : Nat) : AF := F_places_in n 0
theorem f_places_in_succ (n : Nat) : f_places_in (n + 1) = afOf 3 (a_places_in (f_places_in n)) := rfl
noncomputable def a_wrong_part : AS :=
  sSeq (sIf (tNt (tVal (eCall f_is_between (aCons (eVar 0) (aCons (eC (.int 1)) (aCons (eC (.int 4)) (aNil)))))))
    (sRet (eCall mkTup (aCons (eC (.str "cells")) (aNil))))
    (sSkip))
    (sSeq (sIf (tOrr (tNt (tVal (eIsi "tuple" (eVar 1)))) (tNt (tVal (eChain dLe dLe (eC (.int 1)) (eCall bLen (aCons (eVar 1) (aNil))) (eC (.int 5))))))
    (sRet (eCall mkTup (aCons (eC (.str "routines")) (aNil))))
    (sSkip))
    (sSeq (sFor (iA enm (aCons (eVar 1) (aNil))) (gT 2 (gsCons (gN 2) (gsCons (gN 3) (gsNil))))
    (sIf (tOrr (tNt (tVal (eCall (f_is_body 20) (aCons (eVar 3) (aCons (eC (.int 1)) (aCons (eVar 0) (aCons (eCall bLen (aCons (eVar 1) (aNil))) (aNil)))))))) (tVal (eOp dGt (eOp dAdd (eC (.int 2)) (eCall (f_places_in 20) (aCons (eVar 3) (aNil)))) (eC (.int 40)))))
    (sRet (eCall mkTup (aCons (eC (.str "routine")) (aCons (eVar 2) (aNil)))))
    (sSkip)))
    (sRet (eC .non))))
noncomputable def f_wrong_part : AF := afOf 4 a_wrong_part
noncomputable def a_Book_init : AS :=
  sSeq (sAsg (eCall f_wrong_part (aCons (eVar 1) (aCons (eVar 2) (aNil)))) (gN 3))
    (sSeq (sIf (tVal (eOp dNotN (eVar 3) (eC .non)))
    (sRaise1 "BadBook" "part" (eVar 3))
    (sSkip))
    (sSeq (sFldS "Book" "cells" (eVar 0) (eVar 1))
    (sFldS "Book" "routines" (eVar 0) (eVar 2))))
noncomputable def f_Book_init : AF := afOf 4 a_Book_init
noncomputable def a_law : AS :=
  sSeq (sAsg (eCall f_law_hand (aCons (eVar 0) (aNil))) (gN 1))
    (sSeq (sFor (iA rng1 (aCons (eC (.int 4)) (aNil))) (gN 2)
    (sSeq (sAsg (eCall f_law_parts (aCons (eVar 1) (aNil))) (gN 3))
    (sSeq (sPar2 4 5 (aCons (eMk "Book" f_Book_init (aCons (eOp dIx (eVar 3) (eC (.int 0))) (aCons (eOp dIx (eVar 3) (eC (.int 1))) (aNil)))) (aCons (eCall f_law_begins (aCons (eVar 1) (aCons (eOp dIx (eVar 3) (eC (.int 0))) (aNil)))) (aNil))))
    (sSeq (sAsg (eOp dAdd (eLstRg1 (eOp dAdd (eC (.int 1)) (eCall f_law_draw (aCons (eVar 1) (aCons (eC (.int 40)) (aNil)))))) (eCall mkLst (aCons (eCall f_law_any (aCons (eVar 1) (aCons (eCall mkLst (aCons (eC (.int 60)) (aCons (eC (.int 200)) (aCons (eC (.int 700)) (aCons (eC (.int 5000)) (aNil)))))) (aNil)))) (aNil)))) (gN 6))
    (sSeq (sAsg (eCall mkTup (aNil)) (gN 7))
    (sFor (iE (eVar 6)) (gN 8)
    (sSeq (sAsg (eCall f_law_run (aCons (eVar 3) (aCons (eVar 5) (aCons (eVar 8) (aNil))))) (gN 9))
    (sSeq (sIf (tVal (eOp dIsN (eVar 9) (eC .non)))
    (sBrk)
    (sSkip))
    (sSeq (sAsg (eCall f_ran (aCons (eVar 4) (aCons (eVar 5) (aCons (eVar 8) (aNil))))) (gN 10))
    (sSeq (sIf (tOrr (tNt (tVal (eCall (f_law_is 20) (aCons (eVar 10) (aCons (eVar 9) (aNil)))))) (tVal (eOp dNe (eSl (eOp dIx (eVar 10) (eC (.int 0))) (oNone) (oSome (eCall bLen (aCons (eVar 7) (aNil))))) (eVar 7))))
    (sRet (eC (.bl false)))
    (sSkip))
    (sAsg (eOp dIx (eVar 10) (eC (.int 0))) (gN 7))))))))))))
    (sRet (eC (.bl true))))
noncomputable def f_law : AF := afOf 11 a_law
section
variable {P : Program} {w : World} {K : PySem.W.Frag} {mg : Str → Option Value} {base : Heap} {g : Glb}
abbrev s_law_draw : Stmt := topS 35
theorem sc_law_draw : FnScope ["hand", "many", "cell", "digit", "number"] ["hand", "many"] (defScope s_law_draw) := ⟨rfl, rfl, rfl, by decide +kernel, rfl, by decide +kernel, by decide +kernel⟩
theorem ok_law_draw {f : Addr} {fd : FuncData} (T : Txt P w K mg base g)  (F : Fun K "_law_draw" "_law_draw" s_law_draw f fd) : FnOk P w K mg base (L2.CX P w) (0 + 1) f fd ["hand", "many"] (spOf K g 2 f_law_draw) :=
  fn_okA F sc_law_draw rfl fun cdv A outer s H E hr => by
  have hc : CxA (cxOf (L2.CX P w) P w K mg base ["hand", "many", "cell", "digit", "number"] "_law_draw" (defScope s_law_draw) f cdv A outer s H E) 0 := ⟨rfl, sc_law_draw.nd, passes_of rfl, hr⟩
  have hu1 := hu_of hr
  have hu65 := hu65_of hr
  exact sss_cons (ss_if (sw_st (sw_and (st_cmp (opA_eq hc.hr.units) (se_ix (ixA hu1) (se_var 0) (se_int)) (se_int)) (sw_and1 (st_cmp opA_lt (se_ix (ixA hu1) (se_var 0) (se_int)) (se_cb ca_len T.b_len bb_len (sa_cons (se_ix (ixA hu1) (se_var 0) (se_int)) (sa_nil)))))))
      (sss_cons (ss_asg (ws := [2]) (se_ix (ixA hu1) (se_ix (ixA hu1) (se_var 0) (se_int)) (se_ix (ixA hu1) (se_var 0) (se_int))) (sg_name 2 hc.nd))
      (sss_cons (ss_asg (ws := []) (se_bin opA_add (se_ix (ixA hu1) (se_var 0) (se_int)) (se_int)) (sg_sub (stA hu1) (se_var 0) (se_int)))
      (sss_cons (ss_asg (ws := []) (se_bin opA_mod (se_ct ca_int T.b_int bb_int (sa_cons (se_bin opA_add (se_bin opA_add (se_bin opA_mul (se_ix (ixA hu1) (se_var 0) (se_int)) (se_int)) (se_var 2)) (se_int)) (sa_nil))) (se_int)) (sg_sub (stA hu1) (se_var 0) (se_int)))
      (sss_one (ss_if (st_cmp opA_ge (se_var 2) (se_bin opA_pow (se_int) (se_int)))
      (sss_one (ss_asg (ws := []) (se_var 2) (sg_sub (stA hu1) (se_var 0) (se_int))))
      (sss_nil))))))
      (sss_nil))
      (sss_cons (ss_if (st_cmp opA_gt (se_ix (ixA hu1) (se_var 0) (se_int)) (se_int))
      (sss_cons (ss_asg (ws := [3]) (se_bin opA_mod (se_ct ca_int T.b_int bb_int (sa_cons (se_ix (ixA hu1) (se_var 0) (se_int)) (sa_nil))) (se_var 1)) (sg_name 3 hc.nd))
      (sss_cons (ss_asg (ws := []) (se_bin opA_fdiv (se_ix (ixA hu1) (se_var 0) (se_int)) (se_var 1)) (sg_sub (stA hu1) (se_var 0) (se_int)))
      (sss_one (ss_ret (se_var 3)))))
      (sss_nil))
      (sss_cons (ss_asg (ws := []) (se_bin opA_add (se_ix (ixA hu1) (se_var 0) (se_int)) (se_int)) (sg_sub (stA hu1) (se_var 0) (se_int)))
      (sss_cons (ss_asg (ws := [4]) (se_bin opA_mod (se_ct ca_int T.b_int bb_int (sa_cons (se_bin opA_mul (se_ct ca_int T.b_int bb_int (sa_cons (se_bin opA_add (se_ix (ixA hu1) (se_var 0) (se_int)) (se_bin opA_mul (se_int) (se_ix (ixA hu1) (se_var 0) (se_int)))) (sa_nil))) (se_int)) (sa_nil))) (se_int)) (sg_name 4 hc.nd))
      (sss_cons (ss_asg (ws := [4]) (se_bin opA_mod (se_ct ca_int T.b_int bb_int (sa_cons (se_bin opA_mul (se_var 4) (se_bin opA_add (se_bin opA_fdiv (se_var 4) (se_int)) (se_int))) (sa_nil))) (se_int)) (sg_name 4 hc.nd))
      (sss_cons (ss_asg (ws := [4]) (se_bin opA_mod (se_ct ca_int T.b_int bb_int (sa_cons (se_bin opA_mul (se_var 4) (se_bin opA_add (se_bin opA_fdiv (se_var 4) (se_int)) (se_int))) (sa_nil))) (se_int)) (sg_name 4 hc.nd))
      (sss_one (ss_ret (se_bin opA_mod (se_ct ca_int T.b_int bb_int (sa_cons (se_bin opA_fdiv (se_var 4) (se_int)) (sa_nil))) (se_var 1)))))))))
abbrev s_law_any : Stmt := topS 36
theorem sc_law_any : FnScope ["hand", "items"] ["hand", "items"] (defScope s_law_any) := ⟨rfl, rfl, rfl, by decide +kernel, rfl, by decide +kernel, by decide +kernel⟩
theorem ok_law_any {f : Addr} {fd : FuncData} (T : Txt P w K mg base g) (h_law_draw : FnA P w K mg base g 1 "_law_draw" 2 f_law_draw) (F : Fun K "_law_any" "_law_any" s_law_any f fd) : FnOk P w K mg base (L2.CX P w) (1 + 1) f fd ["hand", "items"] (spOf K g 2 f_law_any) :=
  fn_okA F sc_law_any rfl fun cdv A outer s H E hr => by
  have hc : CxA (cxOf (L2.CX P w) P w K mg base ["hand", "items"] "_law_any" (defScope s_law_any) f cdv A outer s H E) 1 := ⟨rfl, sc_law_any.nd, passes_of rfl, hr⟩
  have hu1 := hu_of hr
  have hu65 := hu65_of hr
  exact sss_one (ss_ret (se_ix (ixA hu1) (se_var 1) (se_call h_law_draw (hc.hr.mono (by omega)) rfl (sa_cons (se_var 0) (sa_cons (se_cb ca_len T.b_len bb_len (sa_cons (se_var 1) (sa_nil))) (sa_nil))) (al_cons (al_cons al_nil)))))
abbrev s_law_begins : Stmt := topS 45
theorem sc_law_begins : FnScope ["hand", "cells", "cell"] ["hand", "cells"] (defScope s_law_begins) := ⟨rfl, rfl, rfl, by decide +kernel, rfl, by decide +kernel, by decide +kernel⟩
theorem ok_law_begins {f : Addr} {fd : FuncData} (T : Txt P w K mg base g) (h_law_any : FnA P w K mg base g 2 "_law_any" 2 f_law_any) (F : Fun K "_law_begins" "_law_begins" s_law_begins f fd) : FnOk P w K mg base (L2.CX P w) (2 + 1) f fd ["hand", "cells"] (spOf K g 2 f_law_begins) :=
  fn_okA F sc_law_begins rfl fun cdv A outer s H E hr => by
  have hc : CxA (cxOf (L2.CX P w) P w K mg base ["hand", "cells", "cell"] "_law_begins" (defScope s_law_begins) f cdv A outer s H E) 2 := ⟨rfl, sc_law_begins.nd, passes_of rfl, hr⟩
  have hu1 := hu_of hr
  have hu65 := hu65_of hr
  exact sss_one (ss_ret (se_ct ca_tuple T.b_tuple bb_tuple (sa_cons (se_lc (own := [("cell", 2)]) hc.calm hc.nd (si_range1 T.b_range (sa_cons (se_var 1) (sa_nil))) (blkOk_by (N := ["hand", "cells", "cell"]) (sc := defScope s_law_begins) (by decide +kernel)) rfl (fun _ _ _ _ _ => sg_name 2 hc.nd) (fun _ _ _ _ _ => sts_nil) (fun _ _ _ _ _ => se_call h_law_any (hc.hr.mono (by omega)) rfl (sa_cons (se_var 0) (sa_cons (se_lst (sa_cons (se_int) (sa_cons (se_int) (sa_cons (se_int) (sa_cons (se_int) (sa_cons (se_int) (sa_cons (se_un unA_neg (se_int)) (sa_cons (se_un unA_neg (se_int)) (sa_cons (se_int) (sa_cons (se_bin opA_pow (se_int) (se_int)) (sa_nil))))))))))) (sa_nil))) (al_cons (al_cons al_nil)))) (sa_nil))))
abbrev s_law_hand : Stmt := topS 34
theorem sc_law_hand : FnScope ["script", "cells", "cell"] ["script"] (defScope s_law_hand) := ⟨rfl, rfl, rfl, by decide +kernel, rfl, by decide +kernel, by decide +kernel⟩
theorem ok_law_hand {f : Addr} {fd : FuncData} (T : Txt P w K mg base g)  (F : Fun K "_law_hand" "_law_hand" s_law_hand f fd) : FnOk P w K mg base (L2.CX P w) (0 + 1) f fd ["script"] (spOf K g 1 f_law_hand) :=
  fn_okA F sc_law_hand rfl fun cdv A outer s H E hr => by
  have hc : CxA (cxOf (L2.CX P w) P w K mg base ["script", "cells", "cell"] "_law_hand" (defScope s_law_hand) f cdv A outer s H E) 0 := ⟨rfl, sc_law_hand.nd, passes_of rfl, hr⟩
  have hu1 := hu_of hr
  have hu65 := hu65_of hr
  exact sss_cons (ss_lc (i := 1) (own := [("cell", 2)]) hc.calm hc.nd (si_e (se_sl (se_var 0) (so_none) (so_some (se_int)))) (blkOk_by (N := ["script", "cells", "cell"]) (sc := defScope s_law_hand) (by decide +kernel)) rfl (fun _ _ _ _ _ => sg_name 2 hc.nd) (fun _ _ _ _ _ => sts_nil) (fun _ _ _ _ _ => se_cb ca_abs T.b_abs bb_abs (sa_cons (se_ct ca_int T.b_int bb_int (sa_cons (se_var 2) (sa_nil))) (sa_nil))))
      (sss_one (ss_ret (se_lst (sa_cons (se_var 1) (sa_cons (se_int) (sa_cons (se_int) (sa_cons (se_bin opA_add (se_int) (se_cb ca_len T.b_len bb_len (sa_cons (se_var 1) (sa_nil)))) (sa_cons (se_int) (sa_nil)))))))))
abbrev s_law_is : Stmt := topS 37
theorem sc_law_is : FnScope ["told", "due", "one", "two"] ["told", "due"] (defScope s_law_is) := ⟨rfl, rfl, rfl, by decide +kernel, rfl, by decide +kernel, by decide +kernel⟩
theorem ok_law_is {n : Nat} {f : Addr} {fd : FuncData} (T : Txt P w K mg base g) (h_law_is : FnA P w K mg base g (0 + n) "_law_is" 2 (f_law_is n)) (F : Fun K "_law_is" "_law_is" s_law_is f fd) : FnOk P w K mg base (L2.CX P w) ((0 + n) + 1) f fd ["told", "due"] (spOf K g 2 (f_law_is (n + 1))) :=
  fn_okA F sc_law_is rfl fun cdv A outer s H E hr => by
  have hc : CxA (cxOf (L2.CX P w) P w K mg base ["told", "due", "one", "two"] "_law_is" (defScope s_law_is) f cdv A outer s H E) (0 + n) := ⟨rfl, sc_law_is.nd, passes_of rfl, hr⟩
  have hu1 := hu_of hr
  have hu65 := hu65_of hr
  exact sss_cons (ss_if (st_val (se_isi2 T.b_isinstance T.b_tuple T.b_list bb_tuple bb_list (se_var 1)))
      (sss_cons (ss_if (sw_st (sw_or (st_cmp (opA_ne hc.hr.units) (se_isi T.b_isinstance T.b_tuple bb_tuple (se_var 0)) (se_isi T.b_isinstance T.b_tuple bb_tuple (se_var 1))) (sw_or1 (st_not (st_val (se_isi2 T.b_isinstance T.b_tuple T.b_list bb_tuple bb_list (se_var 0)))))))
      (sss_one (ss_ret (se_bl)))
      (sss_nil))
      (sss_one (ss_ret (se_and (se_cmp (opA_eq hc.hr.units) (se_cb ca_len T.b_len bb_len (sa_cons (se_var 0) (sa_nil))) (se_cb ca_len T.b_len bb_len (sa_cons (se_var 1) (sa_nil)))) (se_one (se_cb (ca_all hc.calm) T.b_all bb_all (sa_cons (se_lc (own := [("one", 2), ("two", 3)]) hc.calm hc.nd (si_zip T.b_zip (sa_cons (se_var 0) (sa_cons (se_var 1) (sa_nil)))) (blkOk_by (N := ["told", "due", "one", "two"]) (sc := defScope s_law_is) (by decide +kernel)) rfl (fun _ _ _ _ _ => sg_tup hc.calm (sgs_cons (sg_name 2 hc.nd) (sgs_cons (sg_name 3 hc.nd) (sgs_nil)))) (fun _ _ _ _ _ => sts_nil) (fun _ _ _ _ _ => se_call h_law_is (hc.hr.mono (by omega)) rfl (sa_cons (se_var 2) (sa_cons (se_var 3) (sa_nil))) (al_cons (al_cons al_nil)))) (sa_nil))))))))
      (sss_nil))
      (sss_one (ss_ret (se_and (se_cmp (opA_eq hc.hr.units) (se_isi T.b_isinstance T.b_bool bb_bool (se_var 0)) (se_isi T.b_isinstance T.b_bool bb_bool (se_var 1))) (se_one (se_cmp (opA_eq hc.hr.units) (se_var 0) (se_var 1))))))
abbrev s_law_size : Stmt := topS 41
theorem sc_law_size : FnScope ["body", "found", "statement", "inner", "part"] ["body"] (defScope s_law_size) := ⟨rfl, rfl, rfl, by decide +kernel, rfl, by decide +kernel, by decide +kernel⟩
theorem ok_law_size {n : Nat} {f : Addr} {fd : FuncData} (T : Txt P w K mg base g) (h_law_size : FnA P w K mg base g (0 + n) "_law_size" 1 (f_law_size n)) (F : Fun K "_law_size" "_law_size" s_law_size f fd) : FnOk P w K mg base (L2.CX P w) ((0 + n) + 1) f fd ["body"] (spOf K g 1 (f_law_size (n + 1))) :=
  fn_okA F sc_law_size rfl fun cdv A outer s H E hr => by
  have hc : CxA (cxOf (L2.CX P w) P w K mg base ["body", "found", "statement", "inner", "part"] "_law_size" (defScope s_law_size) f cdv A outer s H E) (0 + n) := ⟨rfl, sc_law_size.nd, passes_of rfl, hr⟩
  have hu1 := hu_of hr
  have hu65 := hu65_of hr
  exact sss_cons (ss_asg (ws := [1]) (se_int) (sg_name 1 hc.nd))
      (sss_cons (ss_for (ws := [2]) hc.own hc.calm (si_e (se_var 0)) (sg_name 2 hc.nd)
      (sss_cons (ss_lc (i := 3) (own := [("part", 4)]) hc.calm hc.nd (si_e (se_sl (se_var 2) (so_some (se_int)) (so_none))) (blkOk_by (N := ["body", "found", "statement", "inner", "part"]) (sc := defScope s_law_size) (by decide +kernel)) rfl (fun _ _ _ _ _ => sg_name 4 hc.nd) (fun _ _ _ _ _ => sts_one (st_cmp (opA_in hu65) (se_ix (ixA hu1) (se_var 2) (se_int)) (se_lst (sa_cons (se_str) (sa_cons (se_str) (sa_nil)))))) (fun _ _ _ _ _ => se_var 4))
      (sss_one (ss_asg (ws := [1]) (se_bin opA_add (se_bin opA_add (se_var 1) (se_if (st_cmp (opA_eq hc.hr.units) (se_ix (ixA hu1) (se_var 2) (se_int)) (se_str)) (se_int) (se_int))) (se_cb (ca_sumB hc.calm) T.b_sum bb_sum (sa_cons (se_lc (own := [("part", 4)]) hc.calm hc.nd (si_e (se_var 3)) (blkOk_by (N := ["body", "found", "statement", "inner", "part"]) (sc := defScope s_law_size) (by decide +kernel)) rfl (fun _ _ _ _ _ => sg_name 4 hc.nd) (fun _ _ _ _ _ => sts_nil) (fun _ _ _ _ _ => se_call h_law_size (hc.hr.mono (by omega)) rfl (sa_cons (se_var 4) (sa_nil)) (al_cons al_nil))) (sa_nil)))) (sg_name 1 hc.nd)))))
      (sss_one (ss_ret (se_var 1))))
abbrev s_law_alone : Stmt := topS 39
theorem sc_law_alone : FnScope ["cells", "cell", "number", "at"] ["cells", "cell", "number"] (defScope s_law_alone) := ⟨rfl, rfl, rfl, by decide +kernel, rfl, by decide +kernel, by decide +kernel⟩
theorem ok_law_alone {f : Addr} {fd : FuncData} (T : Txt P w K mg base g)  (F : Fun K "_law_alone" "_law_alone" s_law_alone f fd) : FnOk P w K mg base (L2.CX P w) (0 + 1) f fd ["cells", "cell", "number"] (spOf K g 3 f_law_alone) :=
  fn_okA F sc_law_alone rfl fun cdv A outer s H E hr => by
  have hc : CxA (cxOf (L2.CX P w) P w K mg base ["cells", "cell", "number", "at"] "_law_alone" (defScope s_law_alone) f cdv A outer s H E) 0 := ⟨rfl, sc_law_alone.nd, passes_of rfl, hr⟩
  have hu1 := hu_of hr
  have hu65 := hu65_of hr
  exact sss_one (ss_ret (se_bin opA_add (se_ct ca_tuple T.b_tuple bb_tuple (sa_cons (se_lc (own := [("at", 3)]) hc.calm hc.nd (si_range1 T.b_range (sa_cons (se_var 0) (sa_nil))) (blkOk_by (N := ["cells", "cell", "number", "at"]) (sc := defScope s_law_alone) (by decide +kernel)) rfl (fun _ _ _ _ _ => sg_name 3 hc.nd) (fun _ _ _ _ _ => sts_nil) (fun _ _ _ _ _ => se_ct ca_int T.b_int bb_int (sa_cons (se_cmp (opA_eq hc.hr.units) (se_var 3) (se_var 1)) (sa_nil)))) (sa_nil))) (se_tup (sa_cons (se_var 2) (sa_nil)))))
abbrev s_law_sum : Stmt := topS 38
theorem sc_law_sum : FnScope ["hand", "cells", "some", "cell"] ["hand", "cells"] (defScope s_law_sum) := ⟨rfl, rfl, rfl, by decide +kernel, rfl, by decide +kernel, by decide +kernel⟩
theorem ok_law_sum {f : Addr} {fd : FuncData} (T : Txt P w K mg base g) (h_law_any : FnA P w K mg base g 2 "_law_any" 2 f_law_any) (h_law_draw : FnA P w K mg base g 1 "_law_draw" 2 f_law_draw) (F : Fun K "_law_sum" "_law_sum" s_law_sum f fd) : FnOk P w K mg base (L2.CX P w) (2 + 1) f fd ["hand", "cells"] (spOf K g 2 f_law_sum) :=
  fn_okA F sc_law_sum rfl fun cdv A outer s H E hr => by
  have hc : CxA (cxOf (L2.CX P w) P w K mg base ["hand", "cells", "some", "cell"] "_law_sum" (defScope s_law_sum) f cdv A outer s H E) 2 := ⟨rfl, sc_law_sum.nd, passes_of rfl, hr⟩
  have hu1 := hu_of hr
  have hu65 := hu65_of hr
  exact sss_cons (ss_asg (ws := [2]) (se_lst (sa_cons (se_int) (sa_cons (se_int) (sa_cons (se_int) (sa_cons (se_un unA_neg (se_int)) (sa_cons (se_int) (sa_cons (se_un unA_neg (se_int)) (sa_cons (se_int) (sa_cons (se_int) (sa_cons (se_un unA_neg (se_int)) (sa_cons (se_int) (sa_nil)))))))))))) (sg_name 2 hc.nd))
      (sss_one (ss_ret (se_ct ca_tuple T.b_tuple bb_tuple (sa_cons (se_lc (own := [("cell", 3)]) hc.calm hc.nd (si_range1 T.b_range (sa_cons (se_bin opA_add (se_var 1) (se_int)) (sa_nil))) (blkOk_by (N := ["hand", "cells", "some", "cell"]) (sc := defScope s_law_sum) (by decide +kernel)) rfl (fun _ _ _ _ _ => sg_name 3 hc.nd) (fun _ _ _ _ _ => sts_nil) (fun _ _ _ _ _ => se_ix (ixA hu1) (se_var 2) (se_call h_law_draw (hc.hr.mono (by omega)) rfl (sa_cons (se_var 0) (sa_cons (se_call h_law_any (hc.hr.mono (by omega)) rfl (sa_cons (se_var 0) (sa_cons (se_lst (sa_cons (se_int) (sa_cons (se_int) (sa_cons (se_int) (sa_cons (se_int) (sa_nil)))))) (sa_nil))) (al_cons (al_cons al_nil))) (sa_nil))) (al_cons (al_cons al_nil))))) (sa_nil)))))
abbrev s_law_test : Stmt := topS 40
theorem sc_law_test : FnScope ["hand", "cells"] ["hand", "cells"] (defScope s_law_test) := ⟨rfl, rfl, rfl, by decide +kernel, rfl, by decide +kernel, by decide +kernel⟩
theorem ok_law_test {f : Addr} {fd : FuncData} (T : Txt P w K mg base g) (h_law_any : FnA P w K mg base g 2 "_law_any" 2 f_law_any) (h_law_sum : FnA P w K mg base g 3 "_law_sum" 2 f_law_sum) (F : Fun K "_law_test" "_law_test" s_law_test f fd) : FnOk P w K mg base (L2.CX P w) (3 + 1) f fd ["hand", "cells"] (spOf K g 2 f_law_test) :=
  fn_okA F sc_law_test rfl fun cdv A outer s H E hr => by
  have hc : CxA (cxOf (L2.CX P w) P w K mg base ["hand", "cells"] "_law_test" (defScope s_law_test) f cdv A outer s H E) 3 := ⟨rfl, sc_law_test.nd, passes_of rfl, hr⟩
  have hu1 := hu_of hr
  have hu65 := hu65_of hr
  exact sss_one (ss_ret (se_tup (sa_cons (se_call h_law_any (hc.hr.mono (by omega)) rfl (sa_cons (se_var 0) (sa_cons (se_lst (sa_cons (se_str) (sa_cons (se_str) (sa_cons (se_str) (sa_nil))))) (sa_nil))) (al_cons (al_cons al_nil))) (sa_cons (se_call h_law_sum (hc.hr.mono (by omega)) rfl (sa_cons (se_var 0) (sa_cons (se_var 1) (sa_nil))) (al_cons (al_cons al_nil))) (sa_cons (se_call h_law_sum (hc.hr.mono (by omega)) rfl (sa_cons (se_var 0) (sa_cons (se_var 1) (sa_nil))) (al_cons (al_cons al_nil))) (sa_nil))))))
abbrev s_law_statement : Stmt := topS 42
theorem sc_law_statement : FnScope ["hand", "cells", "routines", "deep", "kind", "cell", "body", "zero"] ["hand", "cells", "routines", "deep"] (defScope s_law_statement) := ⟨rfl, rfl, rfl, by decide +kernel, rfl, by decide +kernel, by decide +kernel⟩
theorem ok_law_statement {n : Nat} {f : Addr} {fd : FuncData} (T : Txt P w K mg base g) (h_law_alone : FnA P w K mg base g 1 "_law_alone" 3 f_law_alone) (h_law_any : FnA P w K mg base g 2 "_law_any" 2 f_law_any) (h_law_body : FnA P w K mg base g (20 + n) "_law_body" 4 (f_law_body n)) (h_law_draw : FnA P w K mg base g 1 "_law_draw" 2 f_law_draw) (h_law_sum : FnA P w K mg base g 3 "_law_sum" 2 f_law_sum) (h_law_test : FnA P w K mg base g 4 "_law_test" 2 f_law_test) (F : Fun K "_law_statement" "_law_statement" s_law_statement f fd) : FnOk P w K mg base (L2.CX P w) ((20 + n) + 1) f fd ["hand", "cells", "routines", "deep"] (spOf K g 4 (f_law_statement (n + 1))) :=
  fn_okA F sc_law_statement rfl fun cdv A outer s H E hr => by
  have hc : CxA (cxOf (L2.CX P w) P w K mg base ["hand", "cells", "routines", "deep", "kind", "cell", "body", "zero"] "_law_statement" (defScope s_law_statement) f cdv A outer s H E) (20 + n) := ⟨rfl, sc_law_statement.nd, passes_of rfl, hr⟩
  have hu1 := hu_of hr
  have hu65 := hu65_of hr
  exact sss_cons (ss_par2 hc.calm hc.nd rfl rfl (sa_cons (se_call h_law_draw (hc.hr.mono (by omega)) rfl (sa_cons (se_var 0) (sa_cons (se_int) (sa_nil))) (al_cons (al_cons al_nil))) (sa_cons (se_call h_law_draw (hc.hr.mono (by omega)) rfl (sa_cons (se_var 0) (sa_cons (se_var 1) (sa_nil))) (al_cons (al_cons al_nil))) (sa_nil))) (by decide) rfl rfl rfl)
      (sss_cons (ss_if (st_cmp opA_lt (se_var 4) (se_int))
      (sss_one (ss_ret (se_tup (sa_cons (se_str) (sa_cons (se_var 5) (sa_cons (se_call h_law_sum (hc.hr.mono (by omega)) rfl (sa_cons (se_var 0) (sa_cons (se_var 1) (sa_nil))) (al_cons (al_cons al_nil))) (sa_nil)))))))
      (sss_nil))
      (sss_cons (ss_if (st_cmp opA_lt (se_var 4) (se_int))
      (sss_one (ss_ret (se_tup (sa_cons (se_str) (sa_cons (se_call h_law_sum (hc.hr.mono (by omega)) rfl (sa_cons (se_var 0) (sa_cons (se_var 1) (sa_nil))) (al_cons (al_cons al_nil))) (sa_nil))))))
      (sss_nil))
      (sss_cons (ss_if (st_cmp (opA_eq hc.hr.units) (se_var 4) (se_int))
      (sss_one (ss_ret (se_tup (sa_cons (se_str) (sa_cons (se_call h_law_draw (hc.hr.mono (by omega)) rfl (sa_cons (se_var 0) (sa_cons (se_var 2) (sa_nil))) (al_cons (al_cons al_nil))) (sa_nil))))))
      (sss_nil))
      (sss_cons (ss_if (sw_st (sw_or (st_cmp opA_gt (se_var 3) (se_int)) (sw_or1 (st_cmp (opA_eq hc.hr.units) (se_var 4) (se_int)))))
      (sss_one (ss_ret (se_tup (sa_cons (se_str) (sa_cons (se_var 5) (sa_cons (se_call h_law_alone (hc.hr.mono (by omega)) rfl (sa_cons (se_var 1) (sa_cons (se_var 5) (sa_cons (se_call h_law_any (hc.hr.mono (by omega)) rfl (sa_cons (se_var 0) (sa_cons (se_lst (sa_cons (se_un unA_neg (se_int)) (sa_cons (se_int) (sa_cons (se_int) (sa_cons (se_un unA_neg (se_int)) (sa_nil)))))) (sa_nil))) (al_cons (al_cons al_nil))) (sa_nil)))) (al_cons (al_cons (al_cons al_nil)))) (sa_nil)))))))
      (sss_nil))
      (sss_cons (ss_if (st_cmp opA_lt (se_var 4) (se_int))
      (sss_cons (ss_asg (ws := [6]) (se_call h_law_body (hc.hr.mono (by omega)) rfl (sa_cons (se_var 0) (sa_cons (se_var 1) (sa_cons (se_var 2) (sa_cons (se_bin opA_add (se_var 3) (se_int)) (sa_nil))))) (al_cons (al_cons (al_cons (al_cons al_nil))))) (sg_name 6 hc.nd))
      (sss_one (ss_ret (se_tup (sa_cons (se_str) (sa_cons (se_call h_law_test (hc.hr.mono (by omega)) rfl (sa_cons (se_var 0) (sa_cons (se_var 1) (sa_nil))) (al_cons (al_cons al_nil))) (sa_cons (se_var 6) (sa_cons (se_call h_law_body (hc.hr.mono (by omega)) rfl (sa_cons (se_var 0) (sa_cons (se_var 1) (sa_cons (se_var 2) (sa_cons (se_bin opA_add (se_var 3) (se_int)) (sa_nil))))) (al_cons (al_cons (al_cons (al_cons al_nil))))) (sa_nil)))))))))
      (sss_nil))
      (sss_cons (ss_asg (ws := [6]) (se_call h_law_body (hc.hr.mono (by omega)) rfl (sa_cons (se_var 0) (sa_cons (se_var 1) (sa_cons (se_var 2) (sa_cons (se_bin opA_add (se_var 3) (se_int)) (sa_nil))))) (al_cons (al_cons (al_cons (al_cons al_nil))))) (sg_name 6 hc.nd))
      (sss_cons (ss_if (st_cmp (opA_eq hc.hr.units) (se_var 4) (se_int))
      (sss_one (ss_ret (se_tup (sa_cons (se_str) (sa_cons (se_call h_law_test (hc.hr.mono (by omega)) rfl (sa_cons (se_var 0) (sa_cons (se_var 1) (sa_nil))) (al_cons (al_cons al_nil))) (sa_cons (se_var 6) (sa_nil)))))))
      (sss_nil))
      (sss_cons (ss_asg (ws := [7]) (se_bin opA_mulT (se_tup (sa_cons (se_int) (sa_nil))) (se_bin opA_add (se_var 1) (se_int))) (sg_name 7 hc.nd))
      (sss_one (ss_ret (se_tup (sa_cons (se_str) (sa_cons (se_tup (sa_cons (se_str) (sa_cons (se_var 7) (sa_cons (se_call h_law_alone (hc.hr.mono (by omega)) rfl (sa_cons (se_var 1) (sa_cons (se_var 5) (sa_cons (se_int) (sa_nil)))) (al_cons (al_cons (al_cons al_nil)))) (sa_nil))))) (sa_cons (se_bin opA_add (se_var 6) (se_tup (sa_cons (se_tup (sa_cons (se_str) (sa_cons (se_var 5) (sa_cons (se_call h_law_alone (hc.hr.mono (by omega)) rfl (sa_cons (se_var 1) (sa_cons (se_var 5) (sa_cons (se_un unA_neg (se_int)) (sa_nil)))) (al_cons (al_cons (al_cons al_nil)))) (sa_nil))))) (sa_nil)))) (sa_nil)))))))))))))))
abbrev s_law_body : Stmt := topS 43
theorem sc_law_body : FnScope ["hand", "cells", "routines", "deep", "found", "turn"] ["hand", "cells", "routines", "deep"] (defScope s_law_body) := ⟨rfl, rfl, rfl, by decide +kernel, rfl, by decide +kernel, by decide +kernel⟩
theorem ok_law_body {n : Nat} {f : Addr} {fd : FuncData} (T : Txt P w K mg base g) (h_law_draw : FnA P w K mg base g 1 "_law_draw" 2 f_law_draw) (h_law_size : FnA P w K mg base g 20 "_law_size" 1 (f_law_size 20)) (h_law_statement : FnA P w K mg base g (20 + n) "_law_statement" 4 (f_law_statement n)) (F : Fun K "_law_body" "_law_body" s_law_body f fd) : FnOk P w K mg base (L2.CX P w) ((20 + n) + 1) f fd ["hand", "cells", "routines", "deep"] (spOf K g 4 (f_law_body (n + 1))) :=
  fn_okA F sc_law_body rfl fun cdv A outer s H E hr => by
  have hc : CxA (cxOf (L2.CX P w) P w K mg base ["hand", "cells", "routines", "deep", "found", "turn"] "_law_body" (defScope s_law_body) f cdv A outer s H E) (20 + n) := ⟨rfl, sc_law_body.nd, passes_of rfl, hr⟩
  have hu1 := hu_of hr
  have hu65 := hu65_of hr
  exact sss_cons (ss_asg (ws := [4]) (se_tup (sa_nil)) (sg_name 4 hc.nd))
      (sss_cons (ss_for (ws := [5]) hc.own hc.calm (si_range1 T.b_range (sa_cons (se_call h_law_draw (hc.hr.mono (by omega)) rfl (sa_cons (se_var 0) (sa_cons (se_bin opA_sub (se_int) (se_cb (ca_min hc.calm hc.hr.units) T.b_min bb_min (sa_cons (se_int) (sa_cons (se_bin opA_fdiv (se_var 3) (se_int)) (sa_nil))))) (sa_nil))) (al_cons (al_cons al_nil))) (sa_nil))) (sg_name 5 hc.nd)
      (sss_one (ss_asg (ws := [4]) (se_bin opA_add (se_var 4) (se_tup (sa_cons (se_call h_law_statement (hc.hr.mono (by omega)) rfl (sa_cons (se_var 0) (sa_cons (se_var 1) (sa_cons (se_var 2) (sa_cons (se_var 3) (sa_nil))))) (al_cons (al_cons (al_cons (al_cons al_nil))))) (sa_nil)))) (sg_name 4 hc.nd))))
      (sss_one (ss_ret (se_if (st_cmp opA_lt (se_call h_law_size (hc.hr.mono (by omega)) rfl (sa_cons (se_var 4) (sa_nil)) (al_cons al_nil)) (se_int)) (se_var 4) (se_if (st_cmp opA_lt (se_call h_law_size (hc.hr.mono (by omega)) rfl (sa_cons (se_sl (se_var 4) (so_none) (so_some (se_int))) (sa_nil)) (al_cons al_nil)) (se_int)) (se_sl (se_var 4) (so_none) (so_some (se_int))) (se_tup (sa_nil)))))))
abbrev s_law_parts : Stmt := topS 44
theorem sc_law_parts : FnScope ["hand", "cells", "many", "found", "number", "body"] ["hand"] (defScope s_law_parts) := ⟨rfl, rfl, rfl, by decide +kernel, rfl, by decide +kernel, by decide +kernel⟩
theorem ok_law_parts {f : Addr} {fd : FuncData} (T : Txt P w K mg base g) (h_law_body : FnA P w K mg base g 40 "_law_body" 4 (f_law_body 20)) (h_law_draw : FnA P w K mg base g 1 "_law_draw" 2 f_law_draw) (F : Fun K "_law_parts" "_law_parts" s_law_parts f fd) : FnOk P w K mg base (L2.CX P w) (40 + 1) f fd ["hand"] (spOf K g 1 f_law_parts) :=
  fn_okA F sc_law_parts rfl fun cdv A outer s H E hr => by
  have hc : CxA (cxOf (L2.CX P w) P w K mg base ["hand", "cells", "many", "found", "number", "body"] "_law_parts" (defScope s_law_parts) f cdv A outer s H E) 40 := ⟨rfl, sc_law_parts.nd, passes_of rfl, hr⟩
  have hu1 := hu_of hr
  have hu65 := hu65_of hr
  exact sss_cons (ss_par3 hc.calm hc.nd rfl rfl rfl (sa_cons (se_bin opA_add (se_int) (se_call h_law_draw (hc.hr.mono (by omega)) rfl (sa_cons (se_var 0) (sa_cons (se_int) (sa_nil))) (al_cons (al_cons al_nil)))) (sa_cons (se_bin opA_add (se_int) (se_call h_law_draw (hc.hr.mono (by omega)) rfl (sa_cons (se_var 0) (sa_cons (se_int) (sa_nil))) (al_cons (al_cons al_nil)))) (sa_cons (se_tup (sa_nil)) (sa_nil)))) (by decide) (by decide) (by decide) rfl rfl rfl rfl)
      (sss_cons (ss_for (ws := [4]) hc.own hc.calm (si_range1 T.b_range (sa_cons (se_var 2) (sa_nil))) (sg_name 4 hc.nd)
      (sss_cons (ss_asg (ws := [5]) (se_call h_law_body (hc.hr.mono (by omega)) rfl (sa_cons (se_var 0) (sa_cons (se_var 1) (sa_cons (se_var 2) (sa_cons (se_int) (sa_nil))))) (al_cons (al_cons (al_cons (al_cons al_nil))))) (sg_name 5 hc.nd))
      (sss_one (ss_asg (ws := [3]) (se_bin opA_add (se_var 3) (se_tup (sa_cons (se_var 5) (sa_nil)))) (sg_name 3 hc.nd)))))
      (sss_one (ss_ret (se_tup (sa_cons (se_var 1) (sa_cons (se_var 3) (sa_nil)))))))
abbrev s_law_value : Stmt := topS 46
theorem sc_law_value : FnScope ["total", "values", "found", "many", "value"] ["total", "values"] (defScope s_law_value) := ⟨rfl, rfl, rfl, by decide +kernel, rfl, by decide +kernel, by decide +kernel⟩
theorem ok_law_value {f : Addr} {fd : FuncData} (T : Txt P w K mg base g)  (F : Fun K "_law_value" "_law_value" s_law_value f fd) : FnOk P w K mg base (L2.CX P w) (0 + 1) f fd ["total", "values"] (spOf K g 2 f_law_value) :=
  fn_okA F sc_law_value rfl fun cdv A outer s H E hr => by
  have hc : CxA (cxOf (L2.CX P w) P w K mg base ["total", "values", "found", "many", "value"] "_law_value" (defScope s_law_value) f cdv A outer s H E) 0 := ⟨rfl, sc_law_value.nd, passes_of rfl, hr⟩
  have hu1 := hu_of hr
  have hu65 := hu65_of hr
  exact sss_cons (ss_asg (ws := [2]) (se_ix (ixA hu1) (se_var 0) (se_un unA_neg (se_int))) (sg_name 2 hc.nd))
      (sss_cons (ss_for (ws := [3, 4]) hc.own hc.calm (si_zip T.b_zip (sa_cons (se_var 0) (sa_cons (se_var 1) (sa_nil)))) (sg_tup hc.calm (sgs_cons (sg_name 3 hc.nd) (sgs_cons (sg_name 4 hc.nd) (sgs_nil))))
      (sss_one (ss_asg (ws := [2]) (se_bin opA_add (se_var 2) (se_bin opA_mul (se_var 3) (se_var 4))) (sg_name 2 hc.nd))))
      (sss_one (ss_ret (se_var 2))))
abbrev s_law_test_holds : Stmt := topS 47
theorem sc_law_test_holds : FnScope ["test", "values", "one", "other"] ["test", "values"] (defScope s_law_test_holds) := ⟨rfl, rfl, rfl, by decide +kernel, rfl, by decide +kernel, by decide +kernel⟩
theorem ok_law_test_holds {f : Addr} {fd : FuncData} (T : Txt P w K mg base g) (h_law_value : FnA P w K mg base g 1 "_law_value" 2 f_law_value) (F : Fun K "_law_test_holds" "_law_test_holds" s_law_test_holds f fd) : FnOk P w K mg base (L2.CX P w) (1 + 1) f fd ["test", "values"] (spOf K g 2 f_law_test_holds) :=
  fn_okA F sc_law_test_holds rfl fun cdv A outer s H E hr => by
  have hc : CxA (cxOf (L2.CX P w) P w K mg base ["test", "values", "one", "other"] "_law_test_holds" (defScope s_law_test_holds) f cdv A outer s H E) 1 := ⟨rfl, sc_law_test_holds.nd, passes_of rfl, hr⟩
  have hu1 := hu_of hr
  have hu65 := hu65_of hr
  exact sss_cons (ss_par2 hc.calm hc.nd rfl rfl (sa_cons (se_call h_law_value (hc.hr.mono (by omega)) rfl (sa_cons (se_ix (ixA hu1) (se_var 0) (se_int)) (sa_cons (se_var 1) (sa_nil))) (al_cons (al_cons al_nil))) (sa_cons (se_call h_law_value (hc.hr.mono (by omega)) rfl (sa_cons (se_ix (ixA hu1) (se_var 0) (se_int)) (sa_cons (se_var 1) (sa_nil))) (al_cons (al_cons al_nil))) (sa_nil))) (by decide) rfl rfl rfl)
      (sss_one (ss_ret (se_if (st_cmp (opA_eq hc.hr.units) (se_ix (ixA hu1) (se_var 0) (se_int)) (se_str)) (se_cmp opA_lt (se_var 2) (se_var 3)) (se_cmp (opA_eq hc.hr.units) (se_var 2) (se_var 3)))))
abbrev s_law_run : Stmt := topS 48
theorem sc_law_run : FnScope ["parts", "begins", "most", "values", "said", "steps", "still", "left", "here", "is_fault", "value", "number"] ["parts", "begins", "most"] (defScope s_law_run) := ⟨rfl, rfl, rfl, by decide +kernel, rfl, by decide +kernel, by decide +kernel⟩
theorem ok_law_run {f : Addr} {fd : FuncData} (T : Txt P w K mg base g) (h_law_test_holds : FnA P w K mg base g 2 "_law_test_holds" 2 f_law_test_holds) (h_law_value : FnA P w K mg base g 1 "_law_value" 2 f_law_value) (F : Fun K "_law_run" "_law_run" s_law_run f fd) : FnOk P w K mg base (L2.CX P w) (2 + 1) f fd ["parts", "begins", "most"] (spOf K g 3 f_law_run) :=
  fn_okA F sc_law_run rfl fun cdv A outer s H E hr => by
  have hc : CxA (cxOf (L2.CX P w) P w K mg base ["parts", "begins", "most", "values", "said", "steps", "still", "left", "here", "is_fault", "value", "number"] "_law_run" (defScope s_law_run) f cdv A outer s H E) 2 := ⟨rfl, sc_law_run.nd, passes_of rfl, hr⟩
  have hu1 := hu_of hr
  have hu65 := hu65_of hr
  exact sss_cons (ss_asg (ws := [3, 4, 5, 6]) (se_tup (sa_cons (se_ct (ca_list hc.calm) T.b_list bb_list (sa_cons (se_var 1) (sa_nil))) (sa_cons (se_lst (sa_nil)) (sa_cons (se_int) (sa_cons (se_int) (sa_nil)))))) (sg_tup hc.calm (sgs_cons (sg_name 3 hc.nd) (sgs_cons (sg_name 4 hc.nd) (sgs_cons (sg_name 5 hc.nd) (sgs_cons (sg_name 6 hc.nd) (sgs_nil)))))))
      (sss_cons (ss_asg (ws := [7]) (se_bin opA_add (se_bin opA_add (se_lst (sa_cons (se_tup (sa_cons (se_str) (sa_nil))) (sa_nil))) (se_revL (se_ct (ca_list hc.calm) T.b_list bb_list (sa_cons (se_ix (ixA hu1) (se_ix (ixA hu1) (se_var 0) (se_int)) (se_int)) (sa_nil))))) (se_lst (sa_cons (se_tup (sa_cons (se_str) (sa_nil))) (sa_nil)))) (sg_name 7 hc.nd))
      (sss_cons (ss_while hc.own (sw_st (sw_and (st_cmp opA_gt (se_cb ca_len T.b_len bb_len (sa_cons (se_var 7) (sa_nil))) (se_int)) (sw_and1 (st_cmp opA_lt (se_var 5) (se_var 2)))))
      (sss_cons (ss_asg (ws := [8]) (se_ix (ixA hu1) (se_var 7) (se_un unA_neg (se_int))) (sg_name 8 hc.nd))
      (sss_cons (ss_if (sw_st (sw_and (st_cmp (opA_eq hc.hr.units) (se_ix (ixA hu1) (se_var 8) (se_int)) (se_str)) (sw_and1 (st_cmp (opA_eq hc.hr.units) (se_var 6) (se_int)))))
      (sss_one (ss_ret (se_tup (sa_cons (se_ct ca_tuple T.b_tuple bb_tuple (sa_cons (se_var 4) (sa_nil))) (sa_cons (se_str) (sa_cons (se_ct ca_tuple T.b_tuple bb_tuple (sa_cons (se_var 3) (sa_nil))) (sa_nil)))))))
      (sss_nil))
      (sss_cons (ss_exp (se_bm0 PySem.F.plainAttrs_list PySem.F.slot_list_pop PySem.F.type_list_pop ma_pop (fun _ _ _ _ _ => isL_ty) (se_var 7)))
      (sss_cons (ss_asg (ws := [5]) (se_bin opA_add (se_var 5) (se_int)) (sg_name 5 hc.nd))
      (sss_cons (ss_if (st_cmp (opA_eq hc.hr.units) (se_ix (ixA hu1) (se_var 8) (se_int)) (se_str))
      (sss_one (ss_asg (ws := []) (se_call h_law_value (hc.hr.mono (by omega)) rfl (sa_cons (se_ix (ixA hu1) (se_var 8) (se_int)) (sa_cons (se_var 3) (sa_nil))) (al_cons (al_cons al_nil))) (sg_sub (stA hu1) (se_var 3) (se_ix (ixA hu1) (se_var 8) (se_int)))))
      (sss_one (ss_if (st_cmp (opA_eq hc.hr.units) (se_ix (ixA hu1) (se_var 8) (se_int)) (se_str))
      (sss_one (ss_exp (se_bm PySem.F.plainAttrs_list PySem.F.slot_list_append PySem.F.type_list_append ma_append (fun _ _ _ _ _ => isL_ty) (se_var 4) (sa_cons (se_call h_law_value (hc.hr.mono (by omega)) rfl (sa_cons (se_ix (ixA hu1) (se_var 8) (se_int)) (sa_cons (se_var 3) (sa_nil))) (al_cons (al_cons al_nil))) (sa_nil)))))
      (sss_one (ss_if (st_cmp (opA_eq hc.hr.units) (se_ix (ixA hu1) (se_var 8) (se_int)) (se_str))
      (sss_cons (ss_asg (ws := [6]) (se_bin opA_add (se_var 6) (se_int)) (sg_name 6 hc.nd))
      (sss_one (ss_exp (se_bm PySem.F.plainAttrs_list PySem.F.slot_list_extend PySem.F.type_list_extend ma_extend (fun _ _ _ _ _ => isL_ty) (se_var 7) (sa_cons (se_bin opA_add (se_bin opA_add (se_lst (sa_cons (se_tup (sa_cons (se_str) (sa_nil))) (sa_nil))) (se_revL (se_ct (ca_list hc.calm) T.b_list bb_list (sa_cons (se_ix (ixA hu1) (se_ix (ixA hu1) (se_var 0) (se_int)) (se_ix (ixA hu1) (se_var 8) (se_int))) (sa_nil))))) (se_lst (sa_cons (se_tup (sa_cons (se_str) (sa_nil))) (sa_nil)))) (sa_nil))))))
      (sss_one (ss_if (st_cmp (opA_eq hc.hr.units) (se_ix (ixA hu1) (se_var 8) (se_int)) (se_str))
      (sss_one (ss_exp (se_bm PySem.F.plainAttrs_list PySem.F.slot_list_extend PySem.F.type_list_extend ma_extend (fun _ _ _ _ _ => isL_ty) (se_var 7) (sa_cons (se_bin opA_add (se_lst (sa_cons (se_tup (sa_cons (se_str) (sa_nil))) (sa_nil))) (se_revL (se_ct (ca_list hc.calm) T.b_list bb_list (sa_cons (se_ix (ixA hu1) (se_var 8) (se_if (st_val (se_call h_law_test_holds (hc.hr.mono (by omega)) rfl (sa_cons (se_ix (ixA hu1) (se_var 8) (se_int)) (sa_cons (se_var 3) (sa_nil))) (al_cons (al_cons al_nil)))) (se_int) (se_int))) (sa_nil))))) (sa_nil)))))
      (sss_one (ss_if (sw_st (sw_and (st_cmp (opA_eq hc.hr.units) (se_ix (ixA hu1) (se_var 8) (se_int)) (se_str)) (sw_and1 (st_val (se_call h_law_test_holds (hc.hr.mono (by omega)) rfl (sa_cons (se_ix (ixA hu1) (se_var 8) (se_int)) (sa_cons (se_var 3) (sa_nil))) (al_cons (al_cons al_nil)))))))
      (sss_one (ss_exp (se_bm PySem.F.plainAttrs_list PySem.F.slot_list_extend PySem.F.type_list_extend ma_extend (fun _ _ _ _ _ => isL_ty) (se_var 7) (sa_cons (se_bin opA_add (se_lst (sa_cons (se_var 8) (sa_nil))) (se_revL (se_ct (ca_list hc.calm) T.b_list bb_list (sa_cons (se_ix (ixA hu1) (se_var 8) (se_int)) (sa_nil))))) (sa_nil)))))
      (sss_one (ss_if (st_cmp (opA_eq hc.hr.units) (se_ix (ixA hu1) (se_var 8) (se_int)) (se_str))
      (sss_one (ss_asg (ws := [6]) (se_bin opA_sub (se_var 6) (se_int)) (sg_name 6 hc.nd)))
      (sss_nil))))))))))))
      (sss_one (ss_if (st_cmp opA_gt (se_cb (ca_max hc.calm hc.hr.units) T.b_max bb_max (sa_cons (se_bin opA_add (se_lc (own := [("value", 10)]) hc.calm hc.nd (si_e (se_var 3)) (blkOk_by (N := ["parts", "begins", "most", "values", "said", "steps", "still", "left", "here", "is_fault", "value", "number"]) (sc := defScope s_law_run) (by decide +kernel)) rfl (fun _ _ _ _ _ => sg_name 10 hc.nd) (fun _ _ _ _ _ => sts_nil) (fun _ _ _ _ _ => se_cb ca_abs T.b_abs bb_abs (sa_cons (se_var 10) (sa_nil)))) (se_lc (own := [("number", 11)]) hc.calm hc.nd (si_e (se_sl (se_var 4) (so_some (se_un unA_neg (se_int))) (so_none))) (blkOk_by (N := ["parts", "begins", "most", "values", "said", "steps", "still", "left", "here", "is_fault", "value", "number"]) (sc := defScope s_law_run) (by decide +kernel)) rfl (fun _ _ _ _ _ => sg_name 11 hc.nd) (fun _ _ _ _ _ => sts_nil) (fun _ _ _ _ _ => se_cb ca_abs T.b_abs bb_abs (sa_cons (se_var 11) (sa_nil))))) (sa_nil))) (se_bin opA_powW (se_bin opA_pow (se_int) (se_int)) (se_int)))
      (sss_one (ss_ret (se_non)))
      (sss_nil)))))))))
      (sss_cons (ss_asg (ws := [9]) (se_and (se_cmp opA_gt (se_cb ca_len T.b_len bb_len (sa_cons (se_var 7) (sa_nil))) (se_int)) (se_and (se_cmp (opA_eq hc.hr.units) (se_ix (ixA hu1) (se_ix (ixA hu1) (se_var 7) (se_un unA_neg (se_int))) (se_int)) (se_str)) (se_one (se_cmp (opA_eq hc.hr.units) (se_var 6) (se_int))))) (sg_name 9 hc.nd))
      (sss_one (ss_ret (se_tup (sa_cons (se_ct ca_tuple T.b_tuple bb_tuple (sa_cons (se_var 4) (sa_nil))) (sa_cons (se_if (st_cmp (opA_eq hc.hr.units) (se_cb ca_len T.b_len bb_len (sa_cons (se_var 7) (sa_nil))) (se_int)) (se_str) (se_if (st_val (se_var 9)) (se_str) (se_str))) (sa_cons (se_ct ca_tuple T.b_tuple bb_tuple (sa_cons (se_var 3) (sa_nil))) (sa_nil))))))))))
abbrev s_Runner_contents : Stmt := clsS 32 4
theorem sc_Runner_contents : FnScope ["self"] ["self"] (defScope s_Runner_contents) := ⟨rfl, rfl, rfl, by decide +kernel, rfl, by decide +kernel, by decide +kernel⟩
theorem ok_Runner_contents {f : Addr} {fd : FuncData} (T : Txt P w K mg base g)  (F : Fun K "contents" "Runner.contents" s_Runner_contents f fd) : FnOk P w K mg base (L2.CX P w) (0 + 1) f fd ["self"] (spOf K g 1 f_Runner_contents) :=
  fn_okA F sc_Runner_contents rfl fun cdv A outer s H E hr => by
  have hc : CxA (cxOf (L2.CX P w) P w K mg base ["self"] "Runner.contents" (defScope s_Runner_contents) f cdv A outer s H E) 0 := ⟨rfl, sc_Runner_contents.nd, passes_of rfl, hr⟩
  have hu1 := hu_of hr
  have hu65 := hu65_of hr
  exact sss_one (ss_ret (se_fld T.cls_Runner T.nf_holding (se_var 0)))
abbrev s_Runner_go_along : Stmt := clsS 32 8
theorem sc_Runner_go_along : FnScope ["self", "branch", "routine", "place", "arrow", "head"] ["self", "branch"] (defScope s_Runner_go_along) := ⟨rfl, rfl, rfl, by decide +kernel, rfl, by decide +kernel, by decide +kernel⟩
theorem ok_Runner_go_along {f : Addr} {fd : FuncData} (T : Txt P w K mg base g)  (F : Fun K "go_along" "Runner.go_along" s_Runner_go_along f fd) : FnOk P w K mg base (L2.CX P w) (0 + 1) f fd ["self", "branch"] (spOf K g 2 f_Runner_go_along) :=
  fn_okA F sc_Runner_go_along rfl fun cdv A outer s H E hr => by
  have hc : CxA (cxOf (L2.CX P w) P w K mg base ["self", "branch", "routine", "place", "arrow", "head"] "Runner.go_along" (defScope s_Runner_go_along) f cdv A outer s H E) 0 := ⟨rfl, sc_Runner_go_along.nd, passes_of rfl, hr⟩
  have hu1 := hu_of hr
  have hu65 := hu65_of hr
  exact sss_cons (ss_asg (ws := [2, 3]) (se_ix (ixA hu1) (se_fld T.cls_Runner T.nf_stands (se_var 0)) (se_un unA_neg (se_int))) (sg_tup hc.calm (sgs_cons (sg_name 2 hc.nd) (sgs_cons (sg_name 3 hc.nd) (sgs_nil)))))
      (sss_cons (ss_asg (ws := [4, 5]) (se_ix (ixT hu1) (se_fld T.cls_Plan T.nf_ways (se_ix (ixA hu1) (se_fld T.cls_Runner T.nf_plans (se_var 0)) (se_var 2))) (se_tup (sa_cons (se_var 3) (sa_cons (se_var 1) (sa_nil))))) (sg_tup hc.calm (sgs_cons (sg_name 4 hc.nd) (sgs_cons (sg_name 5 hc.nd) (sgs_nil)))))
      (sss_cons (ss_exp (se_bm PySem.F.plainAttrs_list PySem.F.slot_list_append PySem.F.type_list_append ma_append (fun _ _ _ _ _ => isL_ty) (se_fld T.cls_Runner T.nf_gone (se_var 0)) (sa_cons (se_tup (sa_cons (se_var 2) (sa_cons (se_var 4) (sa_nil)))) (sa_nil))))
      (sss_one (ss_fld T.cls_Runner T.nf_stands (se_var 0) (se_bin opA_add (se_sl (se_fld T.cls_Runner T.nf_stands (se_var 0)) (so_none) (so_some (se_un unA_neg (se_int)))) (se_tup (sa_cons (se_tup (sa_cons (se_var 2) (sa_cons (se_var 5) (sa_nil)))) (sa_nil))))))))
abbrev s_Runner_close_routine : Stmt := clsS 32 7
theorem sc_Runner_close_routine : FnScope ["self"] ["self"] (defScope s_Runner_close_routine) := ⟨rfl, rfl, rfl, by decide +kernel, rfl, by decide +kernel, by decide +kernel⟩
theorem ok_Runner_close_routine {f : Addr} {fd : FuncData} (T : Txt P w K mg base g) (m_Runner_go_along : MetA P w K mg base g 1 "Runner" "go_along" 2 f_Runner_go_along) (F : Fun K "close_routine" "Runner.close_routine" s_Runner_close_routine f fd) : FnOk P w K mg base (L2.CX P w) (1 + 1) f fd ["self"] (spOf K g 1 f_Runner_close_routine) :=
  fn_okA F sc_Runner_close_routine rfl fun cdv A outer s H E hr => by
  have hc : CxA (cxOf (L2.CX P w) P w K mg base ["self"] "Runner.close_routine" (defScope s_Runner_close_routine) f cdv A outer s H E) 1 := ⟨rfl, sc_Runner_close_routine.nd, passes_of rfl, hr⟩
  have hu1 := hu_of hr
  have hu65 := hu65_of hr
  exact sss_cons (ss_fld T.cls_Runner T.nf_stands (se_var 0) (se_sl (se_fld T.cls_Runner T.nf_stands (se_var 0)) (so_none) (so_some (se_un unA_neg (se_int)))))
      (sss_one (ss_if (st_tru (se_fld T.cls_Runner T.nf_stands (se_var 0)))
      (sss_one (ss_exp (se_meth m_Runner_go_along (hc.hr.mono (by omega)) (se_var 0) (sa_cons (se_int) (sa_nil)) (al_cons al_nil))))
      (sss_nil)))
abbrev s_Runner_set_cell : Stmt := clsS 32 11
theorem sc_Runner_set_cell : FnScope ["self", "cell", "number"] ["self", "cell", "number"] (defScope s_Runner_set_cell) := ⟨rfl, rfl, rfl, by decide +kernel, rfl, by decide +kernel, by decide +kernel⟩
theorem ok_Runner_set_cell {f : Addr} {fd : FuncData} (T : Txt P w K mg base g)  (F : Fun K "set_cell" "Runner.set_cell" s_Runner_set_cell f fd) : FnOk P w K mg base (L2.CX P w) (0 + 1) f fd ["self", "cell", "number"] (spOf K g 3 f_Runner_set_cell) :=
  fn_okA F sc_Runner_set_cell rfl fun cdv A outer s H E hr => by
  have hc : CxA (cxOf (L2.CX P w) P w K mg base ["self", "cell", "number"] "Runner.set_cell" (defScope s_Runner_set_cell) f cdv A outer s H E) 0 := ⟨rfl, sc_Runner_set_cell.nd, passes_of rfl, hr⟩
  have hu1 := hu_of hr
  have hu65 := hu65_of hr
  exact sss_one (ss_fld T.cls_Runner T.nf_holding (se_var 0) (se_bin opA_add (se_bin opA_add (se_sl (se_fld T.cls_Runner T.nf_holding (se_var 0)) (so_none) (so_some (se_var 1))) (se_tup (sa_cons (se_var 2) (sa_nil)))) (se_sl (se_fld T.cls_Runner T.nf_holding (se_var 0)) (so_some (se_bin opA_add (se_var 1) (se_int))) (so_none))))
abbrev s_Runner_task : Stmt := clsS 32 2
theorem sc_Runner_task : FnScope ["self", "routine", "place"] ["self"] (defScope s_Runner_task) := ⟨rfl, rfl, rfl, by decide +kernel, rfl, by decide +kernel, by decide +kernel⟩
theorem ok_Runner_task {f : Addr} {fd : FuncData} (T : Txt P w K mg base g)  (F : Fun K "task" "Runner.task" s_Runner_task f fd) : FnOk P w K mg base (L2.CX P w) (0 + 1) f fd ["self"] (spOf K g 1 f_Runner_task) :=
  fn_okA F sc_Runner_task rfl fun cdv A outer s H E hr => by
  have hc : CxA (cxOf (L2.CX P w) P w K mg base ["self", "routine", "place"] "Runner.task" (defScope s_Runner_task) f cdv A outer s H E) 0 := ⟨rfl, sc_Runner_task.nd, passes_of rfl, hr⟩
  have hu1 := hu_of hr
  have hu65 := hu65_of hr
  exact sss_cons (ss_asg (ws := [1, 2]) (se_ix (ixA hu1) (se_fld T.cls_Runner T.nf_stands (se_var 0)) (se_un unA_neg (se_int))) (sg_tup hc.calm (sgs_cons (sg_name 1 hc.nd) (sgs_cons (sg_name 2 hc.nd) (sgs_nil)))))
      (sss_one (ss_ret (se_ix (ixA hu1) (se_fld T.cls_Plan T.nf_tasks (se_ix (ixA hu1) (se_fld T.cls_Runner T.nf_plans (se_var 0)) (se_var 1))) (se_var 2))))
abbrev s_Runner_total_of : Stmt := clsS 32 9
theorem sc_Runner_total_of : FnScope ["self", "numbers", "many", "held"] ["self", "numbers"] (defScope s_Runner_total_of) := ⟨rfl, rfl, rfl, by decide +kernel, rfl, by decide +kernel, by decide +kernel⟩
theorem ok_Runner_total_of {f : Addr} {fd : FuncData} (T : Txt P w K mg base g)  (F : Fun K "total_of" "Runner.total_of" s_Runner_total_of f fd) : FnOk P w K mg base (L2.CX P w) (0 + 1) f fd ["self", "numbers"] (spOf K g 2 f_Runner_total_of) :=
  fn_okA F sc_Runner_total_of rfl fun cdv A outer s H E hr => by
  have hc : CxA (cxOf (L2.CX P w) P w K mg base ["self", "numbers", "many", "held"] "Runner.total_of" (defScope s_Runner_total_of) f cdv A outer s H E) 0 := ⟨rfl, sc_Runner_total_of.nd, passes_of rfl, hr⟩
  have hu1 := hu_of hr
  have hu65 := hu65_of hr
  exact sss_one (ss_ret (se_bin opA_add (se_cb (ca_sumB hc.calm) T.b_sum bb_sum (sa_cons (se_lc (own := [("many", 2), ("held", 3)]) hc.calm hc.nd (si_zip T.b_zip (sa_cons (se_var 1) (sa_cons (se_fld T.cls_Runner T.nf_holding (se_var 0)) (sa_nil)))) (blkOk_by (N := ["self", "numbers", "many", "held"]) (sc := defScope s_Runner_total_of) (by decide +kernel)) rfl (fun _ _ _ _ _ => sg_tup hc.calm (sgs_cons (sg_name 2 hc.nd) (sgs_cons (sg_name 3 hc.nd) (sgs_nil)))) (fun _ _ _ _ _ => sts_nil) (fun _ _ _ _ _ => se_bin opA_mul (se_var 2) (se_var 3))) (sa_nil))) (se_ix (ixA hu1) (se_var 1) (se_un unA_neg (se_int)))))
abbrev s_Runner_test_holds : Stmt := clsS 32 10
theorem sc_Runner_test_holds : FnScope ["self", "test", "first", "second"] ["self", "test"] (defScope s_Runner_test_holds) := ⟨rfl, rfl, rfl, by decide +kernel, rfl, by decide +kernel, by decide +kernel⟩
theorem ok_Runner_test_holds {f : Addr} {fd : FuncData} (T : Txt P w K mg base g) (m_Runner_total_of : MetA P w K mg base g 1 "Runner" "total_of" 2 f_Runner_total_of) (F : Fun K "test_holds" "Runner.test_holds" s_Runner_test_holds f fd) : FnOk P w K mg base (L2.CX P w) (1 + 1) f fd ["self", "test"] (spOf K g 2 f_Runner_test_holds) :=
  fn_okA F sc_Runner_test_holds rfl fun cdv A outer s H E hr => by
  have hc : CxA (cxOf (L2.CX P w) P w K mg base ["self", "test", "first", "second"] "Runner.test_holds" (defScope s_Runner_test_holds) f cdv A outer s H E) 1 := ⟨rfl, sc_Runner_test_holds.nd, passes_of rfl, hr⟩
  have hu1 := hu_of hr
  have hu65 := hu65_of hr
  exact sss_cons (ss_par2 hc.calm hc.nd rfl rfl (sa_cons (se_meth m_Runner_total_of (hc.hr.mono (by omega)) (se_var 0) (sa_cons (se_ix (ixA hu1) (se_var 1) (se_int)) (sa_nil)) (al_cons al_nil)) (sa_cons (se_meth m_Runner_total_of (hc.hr.mono (by omega)) (se_var 0) (sa_cons (se_ix (ixA hu1) (se_var 1) (se_int)) (sa_nil)) (al_cons al_nil)) (sa_nil))) (by decide) rfl rfl rfl)
      (sss_cons (ss_if (st_cmp (opA_eq hc.hr.units) (se_ix (ixA hu1) (se_var 1) (se_int)) (se_str))
      (sss_one (ss_ret (se_cmp opA_lt (se_var 2) (se_var 3))))
      (sss_nil))
      (sss_one (ss_ret (se_cmp (opA_eq hc.hr.units) (se_var 2) (se_var 3)))))
abbrev s_word_of : Stmt := topS 31
theorem sc_word_of : FnScope ["task"] ["task"] (defScope s_word_of) := ⟨rfl, rfl, rfl, by decide +kernel, rfl, by decide +kernel, by decide +kernel⟩
theorem ok_word_of {f : Addr} {fd : FuncData} (T : Txt P w K mg base g)  (F : Fun K "word_of" "word_of" s_word_of f fd) : FnOk P w K mg base (L2.CX P w) (0 + 1) f fd ["task"] (spOf K g 1 f_word_of) :=
  fn_okA F sc_word_of rfl fun cdv A outer s H E hr => by
  have hc : CxA (cxOf (L2.CX P w) P w K mg base ["task"] "word_of" (defScope s_word_of) f cdv A outer s H E) 0 := ⟨rfl, sc_word_of.nd, passes_of rfl, hr⟩
  have hu1 := hu_of hr
  have hu65 := hu65_of hr
  exact sss_cons (ss_if (st_val (se_isi T.b_isinstance T.b_str bb_str (se_var 0)))
      (sss_one (ss_ret (se_var 0)))
      (sss_nil))
      (sss_one (ss_ret (se_ix (ixA hu1) (se_var 0) (se_int))))
abbrev s_Runner_word : Stmt := clsS 32 1
theorem sc_Runner_word : FnScope ["self"] ["self"] (defScope s_Runner_word) := ⟨rfl, rfl, rfl, by decide +kernel, rfl, by decide +kernel, by decide +kernel⟩
theorem ok_Runner_word {f : Addr} {fd : FuncData} (T : Txt P w K mg base g) (m_Runner_task : MetA P w K mg base g 1 "Runner" "task" 1 f_Runner_task) (h_word_of : FnA P w K mg base g 1 "word_of" 1 f_word_of) (F : Fun K "word" "Runner.word" s_Runner_word f fd) : FnOk P w K mg base (L2.CX P w) (1 + 1) f fd ["self"] (spOf K g 1 f_Runner_word) :=
  fn_okA F sc_Runner_word rfl fun cdv A outer s H E hr => by
  have hc : CxA (cxOf (L2.CX P w) P w K mg base ["self"] "Runner.word" (defScope s_Runner_word) f cdv A outer s H E) 1 := ⟨rfl, sc_Runner_word.nd, passes_of rfl, hr⟩
  have hu1 := hu_of hr
  have hu65 := hu65_of hr
  exact sss_cons (ss_if (st_not (st_tru (se_fld T.cls_Runner T.nf_stands (se_var 0))))
      (sss_one (ss_ret (se_str)))
      (sss_nil))
      (sss_cons (ss_if (sw_st (sw_and (st_cmp (opA_eq hc.hr.units) (se_cb ca_len T.b_len bb_len (sa_cons (se_fld T.cls_Runner T.nf_stands (se_var 0)) (sa_nil))) (se_globI T.c_MOST_ROUTINES_BEGUN)) (sw_and1 (st_cmp (opA_eq hc.hr.units) (se_call h_word_of (hc.hr.mono (by omega)) rfl (sa_cons (se_meth0 m_Runner_task (hc.hr.mono (by omega)) (se_var 0)) (sa_nil)) (al_cons al_nil)) (se_str)))))
      (sss_one (ss_ret (se_str)))
      (sss_nil))
      (sss_one (ss_ret (se_str))))
abbrev s_Runner_step : Stmt := clsS 32 6
theorem sc_Runner_step : FnScope ["self", "task", "word"] ["self"] (defScope s_Runner_step) := ⟨rfl, rfl, rfl, by decide +kernel, rfl, by decide +kernel, by decide +kernel⟩
theorem ok_Runner_step {f : Addr} {fd : FuncData} (T : Txt P w K mg base g) (m_Runner_close_routine : MetA P w K mg base g 2 "Runner" "close_routine" 1 f_Runner_close_routine) (m_Runner_go_along : MetA P w K mg base g 1 "Runner" "go_along" 2 f_Runner_go_along) (m_Runner_set_cell : MetA P w K mg base g 1 "Runner" "set_cell" 3 f_Runner_set_cell) (m_Runner_task : MetA P w K mg base g 1 "Runner" "task" 1 f_Runner_task) (m_Runner_test_holds : MetA P w K mg base g 2 "Runner" "test_holds" 2 f_Runner_test_holds) (m_Runner_total_of : MetA P w K mg base g 1 "Runner" "total_of" 2 f_Runner_total_of) (m_Runner_word : MetA P w K mg base g 2 "Runner" "word" 1 f_Runner_word) (h_word_of : FnA P w K mg base g 1 "word_of" 1 f_word_of) (F : Fun K "step" "Runner.step" s_Runner_step f fd) : FnOk P w K mg base (L2.CX P w) (2 + 1) f fd ["self"] (spOf K g 1 f_Runner_step) :=
  fn_okA F sc_Runner_step rfl fun cdv A outer s H E hr => by
  have hc : CxA (cxOf (L2.CX P w) P w K mg base ["self", "task", "word"] "Runner.step" (defScope s_Runner_step) f cdv A outer s H E) 2 := ⟨rfl, sc_Runner_step.nd, passes_of rfl, hr⟩
  have hu1 := hu_of hr
  have hu65 := hu65_of hr
  exact sss_cons (ss_if (st_cmp (opA_ne hc.hr.units) (se_meth0 m_Runner_word (hc.hr.mono (by omega)) (se_var 0)) (se_str))
      (sss_one (ss_raise0 T.er_NotRunning hc.calm (hc.hr.mono (by omega))))
      (sss_nil))
      (sss_cons (ss_exp (se_bm PySem.F.plainAttrs_list PySem.F.slot_list_append PySem.F.type_list_append ma_append (fun _ _ _ _ _ => isL_ty) (se_fld T.cls_Runner T.nf_past (se_var 0)) (sa_cons (se_tup (sa_cons (se_fld T.cls_Runner T.nf_stands (se_var 0)) (sa_cons (se_fld T.cls_Runner T.nf_holding (se_var 0)) (sa_cons (se_cb ca_len T.b_len bb_len (sa_cons (se_fld T.cls_Runner T.nf_spoken (se_var 0)) (sa_nil))) (sa_cons (se_cb ca_len T.b_len bb_len (sa_cons (se_fld T.cls_Runner T.nf_gone (se_var 0)) (sa_nil))) (sa_nil)))))) (sa_nil))))
      (sss_cons (ss_asg (ws := [1]) (se_meth0 m_Runner_task (hc.hr.mono (by omega)) (se_var 0)) (sg_name 1 hc.nd))
      (sss_cons (ss_asg (ws := [2]) (se_call h_word_of (hc.hr.mono (by omega)) rfl (sa_cons (se_var 1) (sa_nil)) (al_cons al_nil)) (sg_name 2 hc.nd))
      (sss_one (ss_if (st_cmp (opA_eq hc.hr.units) (se_var 2) (se_str))
      (sss_one (ss_exp (se_meth0 m_Runner_close_routine (hc.hr.mono (by omega)) (se_var 0))))
      (sss_one (ss_if (st_cmp (opA_eq hc.hr.units) (se_var 2) (se_str))
      (sss_one (ss_fld T.cls_Runner T.nf_stands (se_var 0) (se_bin opA_add (se_fld T.cls_Runner T.nf_stands (se_var 0)) (se_tup (sa_cons (se_tup (sa_cons (se_ix (ixA hu1) (se_var 1) (se_int)) (sa_cons (se_int) (sa_nil)))) (sa_nil))))))
      (sss_one (ss_if (st_cmp (opA_in hu65) (se_var 2) (se_tup (sa_cons (se_str) (sa_cons (se_str) (sa_nil)))))
      (sss_one (ss_exp (se_meth m_Runner_go_along (hc.hr.mono (by omega)) (se_var 0) (sa_cons (se_if (st_val (se_meth m_Runner_test_holds (hc.hr.mono (by omega)) (se_var 0) (sa_cons (se_var 1) (sa_nil)) (al_cons al_nil))) (se_int) (se_int)) (sa_nil)) (al_cons al_nil))))
      (sss_cons (ss_if (st_cmp (opA_eq hc.hr.units) (se_var 2) (se_str))
      (sss_one (ss_exp (se_meth m_Runner_set_cell (hc.hr.mono (by omega)) (se_var 0) (sa_cons (se_ix (ixA hu1) (se_var 1) (se_int)) (sa_cons (se_meth m_Runner_total_of (hc.hr.mono (by omega)) (se_var 0) (sa_cons (se_ix (ixA hu1) (se_var 1) (se_int)) (sa_nil)) (al_cons al_nil)) (sa_nil))) (al_cons (al_cons al_nil)))))
      (sss_one (ss_if (st_cmp (opA_eq hc.hr.units) (se_var 2) (se_str))
      (sss_one (ss_exp (se_bm PySem.F.plainAttrs_list PySem.F.slot_list_append PySem.F.type_list_append ma_append (fun _ _ _ _ _ => isL_ty) (se_fld T.cls_Runner T.nf_spoken (se_var 0)) (sa_cons (se_meth m_Runner_total_of (hc.hr.mono (by omega)) (se_var 0) (sa_cons (se_ix (ixA hu1) (se_var 1) (se_int)) (sa_nil)) (al_cons al_nil)) (sa_nil)))))
      (sss_nil))))
      (sss_one (ss_exp (se_meth m_Runner_go_along (hc.hr.mono (by omega)) (se_var 0) (sa_cons (se_int) (sa_nil)) (al_cons al_nil))))))))))))))
abbrev s_is_whole : Stmt := topS 9
theorem sc_is_whole : FnScope ["thing"] ["thing"] (defScope s_is_whole) := ⟨rfl, rfl, rfl, by decide +kernel, rfl, by decide +kernel, by decide +kernel⟩
theorem ok_is_whole {f : Addr} {fd : FuncData} (T : Txt P w K mg base g)  (F : Fun K "is_whole" "is_whole" s_is_whole f fd) : FnOk P w K mg base (L2.CX P w) (0 + 1) f fd ["thing"] (spOf K g 1 f_is_whole) :=
  fn_okA F sc_is_whole rfl fun cdv A outer s H E hr => by
  have hc : CxA (cxOf (L2.CX P w) P w K mg base ["thing"] "is_whole" (defScope s_is_whole) f cdv A outer s H E) 0 := ⟨rfl, sc_is_whole.nd, passes_of rfl, hr⟩
  have hu1 := hu_of hr
  have hu65 := hu65_of hr
  exact sss_one (ss_ret (se_and (se_isi T.b_isinstance T.b_int bb_int (se_var 0)) (se_one (se_not (se_isi T.b_isinstance T.b_bool bb_bool (se_var 0))))))
abbrev s_is_between : Stmt := topS 10
theorem sc_is_between : FnScope ["thing", "low", "high"] ["thing", "low", "high"] (defScope s_is_between) := ⟨rfl, rfl, rfl, by decide +kernel, rfl, by decide +kernel, by decide +kernel⟩
theorem ok_is_between {f : Addr} {fd : FuncData} (T : Txt P w K mg base g) (h_is_whole : FnA P w K mg base g 1 "is_whole" 1 f_is_whole) (F : Fun K "is_between" "is_between" s_is_between f fd) : FnOk P w K mg base (L2.CX P w) (1 + 1) f fd ["thing", "low", "high"] (spOf K g 3 f_is_between) :=
  fn_okA F sc_is_between rfl fun cdv A outer s H E hr => by
  have hc : CxA (cxOf (L2.CX P w) P w K mg base ["thing", "low", "high"] "is_between" (defScope s_is_between) f cdv A outer s H E) 1 := ⟨rfl, sc_is_between.nd, passes_of rfl, hr⟩
  have hu1 := hu_of hr
  have hu65 := hu65_of hr
  exact sss_one (ss_ret (se_and (se_call h_is_whole (hc.hr.mono (by omega)) rfl (sa_cons (se_var 0) (sa_nil)) (al_cons al_nil)) (se_one (se_chain opA_le opA_le (se_var 1) (se_var 0) (se_var 2)))))
abbrev s_Runner_go : Stmt := clsS 32 18
theorem sc_Runner_go : FnScope ["self", "most", "done"] ["self", "most"] (defScope s_Runner_go) := ⟨rfl, rfl, rfl, by decide +kernel, rfl, by decide +kernel, by decide +kernel⟩
theorem ok_Runner_go {f : Addr} {fd : FuncData} (T : Txt P w K mg base g) (m_Runner_step : MetA P w K mg base g 3 "Runner" "step" 1 f_Runner_step) (m_Runner_word : MetA P w K mg base g 2 "Runner" "word" 1 f_Runner_word) (h_is_between : FnA P w K mg base g 2 "is_between" 3 f_is_between) (F : Fun K "go" "Runner.go" s_Runner_go f fd) : FnOk P w K mg base (L2.CX P w) (3 + 1) f fd ["self", "most"] (spOf K g 2 f_Runner_go) :=
  fn_okA F sc_Runner_go rfl fun cdv A outer s H E hr => by
  have hc : CxA (cxOf (L2.CX P w) P w K mg base ["self", "most", "done"] "Runner.go" (defScope s_Runner_go) f cdv A outer s H E) 3 := ⟨rfl, sc_Runner_go.nd, passes_of rfl, hr⟩
  have hu1 := hu_of hr
  have hu65 := hu65_of hr
  exact sss_cons (ss_if (st_not (st_val (se_call h_is_between (hc.hr.mono (by omega)) rfl (sa_cons (se_var 1) (sa_cons (se_int) (sa_cons (se_globI T.c_MOST_STEPS) (sa_nil)))) (al_cons (al_cons (al_cons al_nil))))))
      (sss_one (ss_raise0 T.er_NoNumber hc.calm (hc.hr.mono (by omega))))
      (sss_nil))
      (sss_cons (ss_asg (ws := [2]) (se_int) (sg_name 2 hc.nd))
      (sss_cons (ss_while hc.own (sw_st (sw_and (st_cmp opA_lt (se_var 2) (se_var 1)) (sw_and1 (st_cmp (opA_eq hc.hr.units) (se_meth0 m_Runner_word (hc.hr.mono (by omega)) (se_var 0)) (se_str)))))
      (sss_cons (ss_exp (se_meth0 m_Runner_step (hc.hr.mono (by omega)) (se_var 0)))
      (sss_cons (ss_aug 2 hc.nd ip_add (se_int))
      (sss_one (ss_if (sw_st (sw_and (st_tru (se_fld T.cls_Runner T.nf_stands (se_var 0))) (sw_and1 (st_cmp (opA_inT hu1) (se_ix (ixA hu1) (se_fld T.cls_Runner T.nf_stands (se_var 0)) (se_un unA_neg (se_int))) (se_fld T.cls_Runner T.nf_marks (se_var 0))))))
      (sss_one (ss_brk))
      (sss_nil))))))
      (sss_one (ss_ret (se_var 2)))))
abbrev s_Runner_said : Stmt := clsS 32 5
theorem sc_Runner_said : FnScope ["self"] ["self"] (defScope s_Runner_said) := ⟨rfl, rfl, rfl, by decide +kernel, rfl, by decide +kernel, by decide +kernel⟩
theorem ok_Runner_said {f : Addr} {fd : FuncData} (T : Txt P w K mg base g)  (F : Fun K "said" "Runner.said" s_Runner_said f fd) : FnOk P w K mg base (L2.CX P w) (0 + 1) f fd ["self"] (spOf K g 1 f_Runner_said) :=
  fn_okA F sc_Runner_said rfl fun cdv A outer s H E hr => by
  have hc : CxA (cxOf (L2.CX P w) P w K mg base ["self"] "Runner.said" (defScope s_Runner_said) f cdv A outer s H E) 0 := ⟨rfl, sc_Runner_said.nd, passes_of rfl, hr⟩
  have hu1 := hu_of hr
  have hu65 := hu65_of hr
  exact sss_one (ss_ret (se_ct ca_tuple T.b_tuple bb_tuple (sa_cons (se_fld T.cls_Runner T.nf_spoken (se_var 0)) (sa_nil))))
abbrev s_are_whole : Stmt := topS 12
theorem sc_are_whole : FnScope ["things", "thing"] ["things"] (defScope s_are_whole) := ⟨rfl, rfl, rfl, by decide +kernel, rfl, by decide +kernel, by decide +kernel⟩
theorem ok_are_whole {f : Addr} {fd : FuncData} (T : Txt P w K mg base g) (h_is_whole : FnA P w K mg base g 1 "is_whole" 1 f_is_whole) (F : Fun K "are_whole" "are_whole" s_are_whole f fd) : FnOk P w K mg base (L2.CX P w) (1 + 1) f fd ["things"] (spOf K g 1 f_are_whole) :=
  fn_okA F sc_are_whole rfl fun cdv A outer s H E hr => by
  have hc : CxA (cxOf (L2.CX P w) P w K mg base ["things", "thing"] "are_whole" (defScope s_are_whole) f cdv A outer s H E) 1 := ⟨rfl, sc_are_whole.nd, passes_of rfl, hr⟩
  have hu1 := hu_of hr
  have hu65 := hu65_of hr
  exact sss_one (ss_ret (se_cb (ca_all hc.calm) T.b_all bb_all (sa_cons (se_lc (own := [("thing", 1)]) hc.calm hc.nd (si_e (se_var 0)) (blkOk_by (N := ["things", "thing"]) (sc := defScope s_are_whole) (by decide +kernel)) rfl (fun _ _ _ _ _ => sg_name 1 hc.nd) (fun _ _ _ _ _ => sts_nil) (fun _ _ _ _ _ => se_call h_is_whole (hc.hr.mono (by omega)) rfl (sa_cons (se_var 1) (sa_nil)) (al_cons al_nil))) (sa_nil))))
abbrev s_is_row : Stmt := topS 11
theorem sc_is_row : FnScope ["thing", "many"] ["thing", "many"] (defScope s_is_row) := ⟨rfl, rfl, rfl, by decide +kernel, rfl, by decide +kernel, by decide +kernel⟩
theorem ok_is_row {f : Addr} {fd : FuncData} (T : Txt P w K mg base g)  (F : Fun K "is_row" "is_row" s_is_row f fd) : FnOk P w K mg base (L2.CX P w) (0 + 1) f fd ["thing", "many"] (spOf K g 2 f_is_row) :=
  fn_okA F sc_is_row rfl fun cdv A outer s H E hr => by
  have hc : CxA (cxOf (L2.CX P w) P w K mg base ["thing", "many"] "is_row" (defScope s_is_row) f cdv A outer s H E) 0 := ⟨rfl, sc_is_row.nd, passes_of rfl, hr⟩
  have hu1 := hu_of hr
  have hu65 := hu65_of hr
  exact sss_one (ss_ret (se_and (se_isi T.b_isinstance T.b_tuple bb_tuple (se_var 0)) (se_one (se_cmp (opA_eq hc.hr.units) (se_cb ca_len T.b_len bb_len (sa_cons (se_var 0) (sa_nil))) (se_var 1)))))
abbrev s_Plan_add_place : Stmt := clsS 26 1
theorem sc_Plan_add_place : FnScope ["self", "task", "starts"] ["self", "task", "starts"] (defScope s_Plan_add_place) := ⟨rfl, rfl, rfl, by decide +kernel, rfl, by decide +kernel, by decide +kernel⟩
theorem ok_Plan_add_place {f : Addr} {fd : FuncData} (T : Txt P w K mg base g)  (F : Fun K "add_place" "Plan.add_place" s_Plan_add_place f fd) : FnOk P w K mg base (L2.CX P w) (0 + 1) f fd ["self", "task", "starts"] (spOf K g 3 f_Plan_add_place) :=
  fn_okA F sc_Plan_add_place rfl fun cdv A outer s H E hr => by
  have hc : CxA (cxOf (L2.CX P w) P w K mg base ["self", "task", "starts"] "Plan.add_place" (defScope s_Plan_add_place) f cdv A outer s H E) 0 := ⟨rfl, sc_Plan_add_place.nd, passes_of rfl, hr⟩
  have hu1 := hu_of hr
  have hu65 := hu65_of hr
  exact sss_cons (ss_exp (se_bm PySem.F.plainAttrs_list PySem.F.slot_list_append PySem.F.type_list_append ma_append (fun _ _ _ _ _ => isL_ty) (se_fld T.cls_Plan T.nf_tasks (se_var 0)) (sa_cons (se_var 1) (sa_nil))))
      (sss_cons (ss_exp (se_bm PySem.F.plainAttrs_list PySem.F.slot_list_append PySem.F.type_list_append ma_append (fun _ _ _ _ _ => isL_ty) (se_fld T.cls_Plan T.nf_coming (se_var 0)) (sa_cons (se_var 2) (sa_nil))))
      (sss_one (ss_ret (se_bin opA_sub (se_cb ca_len T.b_len bb_len (sa_cons (se_fld T.cls_Plan T.nf_tasks (se_var 0)) (sa_nil))) (se_int)))))
abbrev s_Plan_lay_while : Stmt := clsS 26 4
theorem sc_Plan_lay_while : FnScope ["self", "statement", "start", "place", "behind"] ["self", "statement", "start"] (defScope s_Plan_lay_while) := ⟨rfl, rfl, rfl, by decide +kernel, rfl, by decide +kernel, by decide +kernel⟩
theorem ok_Plan_lay_while {n : Nat} {f : Addr} {fd : FuncData} (T : Txt P w K mg base g) (m_Plan_add_place : MetA P w K mg base g 1 "Plan" "add_place" 3 f_Plan_add_place) (m_Plan_lay : MetA P w K mg base g (1 + n) "Plan" "lay" 3 (f_Plan_lay n)) (F : Fun K "lay_while" "Plan.lay_while" s_Plan_lay_while f fd) : FnOk P w K mg base (L2.CX P w) ((1 + n) + 1) f fd ["self", "statement", "start"] (spOf K g 3 (f_Plan_lay_while (n + 1))) :=
  fn_okA F sc_Plan_lay_while rfl fun cdv A outer s H E hr => by
  have hc : CxA (cxOf (L2.CX P w) P w K mg base ["self", "statement", "start", "place", "behind"] "Plan.lay_while" (defScope s_Plan_lay_while) f cdv A outer s H E) (1 + n) := ⟨rfl, sc_Plan_lay_while.nd, passes_of rfl, hr⟩
  have hu1 := hu_of hr
  have hu65 := hu65_of hr
  exact sss_cons (ss_asg (ws := [3]) (se_meth m_Plan_add_place (hc.hr.mono (by omega)) (se_var 0) (sa_cons (se_ix (ixA hu1) (se_var 1) (se_int)) (sa_cons (se_lst (sa_cons (se_var 2) (sa_nil))) (sa_nil))) (al_cons (al_cons al_nil))) (sg_name 3 hc.nd))
      (sss_cons (ss_asg (ws := [4]) (se_meth m_Plan_lay (hc.hr.mono (by omega)) (se_var 0) (sa_cons (se_ix (ixA hu1) (se_var 1) (se_int)) (sa_cons (se_tup (sa_cons (se_var 3) (sa_cons (se_int) (sa_nil)))) (sa_nil))) (al_cons (al_cons al_nil))) (sg_name 4 hc.nd))
      (sss_cons (ss_exp (se_bm PySem.F.plainAttrs_list PySem.F.slot_list_append PySem.F.type_list_append ma_append (fun _ _ _ _ _ => isL_ty) (se_ix (ixA hu1) (se_fld T.cls_Plan T.nf_coming (se_var 0)) (se_var 3)) (sa_cons (se_var 4) (sa_nil))))
      (sss_one (ss_ret (se_tup (sa_cons (se_var 3) (sa_cons (se_int) (sa_nil))))))))
abbrev s_Plan_lay_if : Stmt := clsS 26 3
theorem sc_Plan_lay_if : FnScope ["self", "statement", "start", "place", "first", "second"] ["self", "statement", "start"] (defScope s_Plan_lay_if) := ⟨rfl, rfl, rfl, by decide +kernel, rfl, by decide +kernel, by decide +kernel⟩
theorem ok_Plan_lay_if {n : Nat} {f : Addr} {fd : FuncData} (T : Txt P w K mg base g) (m_Plan_add_place : MetA P w K mg base g 1 "Plan" "add_place" 3 f_Plan_add_place) (m_Plan_lay : MetA P w K mg base g (1 + n) "Plan" "lay" 3 (f_Plan_lay n)) (F : Fun K "lay_if" "Plan.lay_if" s_Plan_lay_if f fd) : FnOk P w K mg base (L2.CX P w) ((1 + n) + 1) f fd ["self", "statement", "start"] (spOf K g 3 (f_Plan_lay_if (n + 1))) :=
  fn_okA F sc_Plan_lay_if rfl fun cdv A outer s H E hr => by
  have hc : CxA (cxOf (L2.CX P w) P w K mg base ["self", "statement", "start", "place", "first", "second"] "Plan.lay_if" (defScope s_Plan_lay_if) f cdv A outer s H E) (1 + n) := ⟨rfl, sc_Plan_lay_if.nd, passes_of rfl, hr⟩
  have hu1 := hu_of hr
  have hu65 := hu65_of hr
  exact sss_cons (ss_asg (ws := [3]) (se_meth m_Plan_add_place (hc.hr.mono (by omega)) (se_var 0) (sa_cons (se_ix (ixA hu1) (se_var 1) (se_int)) (sa_cons (se_lst (sa_cons (se_var 2) (sa_nil))) (sa_nil))) (al_cons (al_cons al_nil))) (sg_name 3 hc.nd))
      (sss_cons (ss_asg (ws := [4]) (se_meth m_Plan_lay (hc.hr.mono (by omega)) (se_var 0) (sa_cons (se_ix (ixA hu1) (se_var 1) (se_int)) (sa_cons (se_tup (sa_cons (se_var 3) (sa_cons (se_int) (sa_nil)))) (sa_nil))) (al_cons (al_cons al_nil))) (sg_name 4 hc.nd))
      (sss_cons (ss_asg (ws := [5]) (se_meth m_Plan_lay (hc.hr.mono (by omega)) (se_var 0) (sa_cons (se_ix (ixA hu1) (se_var 1) (se_int)) (sa_cons (se_tup (sa_cons (se_var 3) (sa_cons (se_int) (sa_nil)))) (sa_nil))) (al_cons (al_cons al_nil))) (sg_name 5 hc.nd))
      (sss_one (ss_ret (se_tup (sa_cons (se_meth m_Plan_add_place (hc.hr.mono (by omega)) (se_var 0) (sa_cons (se_str) (sa_cons (se_lst (sa_cons (se_var 5) (sa_cons (se_var 4) (sa_nil)))) (sa_nil))) (al_cons (al_cons al_nil))) (sa_cons (se_int) (sa_nil))))))))
abbrev s_Plan_lay : Stmt := clsS 26 2
theorem sc_Plan_lay : FnScope ["self", "body", "start", "statement"] ["self", "body", "start"] (defScope s_Plan_lay) := ⟨rfl, rfl, rfl, by decide +kernel, rfl, by decide +kernel, by decide +kernel⟩
theorem ok_Plan_lay {n : Nat} {f : Addr} {fd : FuncData} (T : Txt P w K mg base g) (m_Plan_add_place : MetA P w K mg base g 1 "Plan" "add_place" 3 f_Plan_add_place) (m_Plan_lay_if : MetA P w K mg base g (1 + n) "Plan" "lay_if" 3 (f_Plan_lay_if n)) (m_Plan_lay_while : MetA P w K mg base g (1 + n) "Plan" "lay_while" 3 (f_Plan_lay_while n)) (F : Fun K "lay" "Plan.lay" s_Plan_lay f fd) : FnOk P w K mg base (L2.CX P w) ((1 + n) + 1) f fd ["self", "body", "start"] (spOf K g 3 (f_Plan_lay (n + 1))) :=
  fn_okA F sc_Plan_lay rfl fun cdv A outer s H E hr => by
  have hc : CxA (cxOf (L2.CX P w) P w K mg base ["self", "body", "start", "statement"] "Plan.lay" (defScope s_Plan_lay) f cdv A outer s H E) (1 + n) := ⟨rfl, sc_Plan_lay.nd, passes_of rfl, hr⟩
  have hu1 := hu_of hr
  have hu65 := hu65_of hr
  exact sss_cons (ss_for (ws := [3]) hc.own hc.calm (si_e (se_var 1)) (sg_name 3 hc.nd)
      (sss_one (ss_if (st_cmp (opA_eq hc.hr.units) (se_ix (ixA hu1) (se_var 3) (se_int)) (se_str))
      (sss_one (ss_asg (ws := [2]) (se_meth m_Plan_lay_if (hc.hr.mono (by omega)) (se_var 0) (sa_cons (se_var 3) (sa_cons (se_var 2) (sa_nil))) (al_cons (al_cons al_nil))) (sg_name 2 hc.nd)))
      (sss_one (ss_if (st_cmp (opA_eq hc.hr.units) (se_ix (ixA hu1) (se_var 3) (se_int)) (se_str))
      (sss_one (ss_asg (ws := [2]) (se_meth m_Plan_lay_while (hc.hr.mono (by omega)) (se_var 0) (sa_cons (se_var 3) (sa_cons (se_var 2) (sa_nil))) (al_cons (al_cons al_nil))) (sg_name 2 hc.nd)))
      (sss_one (ss_asg (ws := [2]) (se_tup (sa_cons (se_meth m_Plan_add_place (hc.hr.mono (by omega)) (se_var 0) (sa_cons (se_var 3) (sa_cons (se_lst (sa_cons (se_var 2) (sa_nil))) (sa_nil))) (al_cons (al_cons al_nil))) (sa_cons (se_int) (sa_nil)))) (sg_name 2 hc.nd))))))))
      (sss_one (ss_ret (se_var 2)))
abbrev s_Plan_init : Stmt := clsS 26 0
theorem sc_Plan_init : FnScope ["self", "body", "heads", "place", "starts", "start", "arrow", "head"] ["self", "body"] (defScope s_Plan_init) := ⟨rfl, rfl, rfl, by decide +kernel, rfl, by decide +kernel, by decide +kernel⟩
theorem ok_Plan_init {f : Addr} {fd : FuncData} (T : Txt P w K mg base g) (m_Plan_add_place : MetA P w K mg base g 1 "Plan" "add_place" 3 f_Plan_add_place) (m_Plan_lay : MetA P w K mg base g 21 "Plan" "lay" 3 (f_Plan_lay 20)) (F : Fun K "__init__" "Plan.__init__" s_Plan_init f fd) : FnOk P w K mg base (L2.CX P w) (21 + 1) f fd ["self", "body"] (spOf K g 2 f_Plan_init) :=
  fn_okA F sc_Plan_init rfl fun cdv A outer s H E hr => by
  have hc : CxA (cxOf (L2.CX P w) P w K mg base ["self", "body", "heads", "place", "starts", "start", "arrow", "head"] "Plan.__init__" (defScope s_Plan_init) f cdv A outer s H E) 21 := ⟨rfl, sc_Plan_init.nd, passes_of rfl, hr⟩
  have hu1 := hu_of hr
  have hu65 := hu65_of hr
  exact sss_cons (ss_fld T.cls_Plan T.nf_tasks (se_var 0) (se_lst (sa_cons (se_str) (sa_nil))))
      (sss_cons (ss_fld T.cls_Plan T.nf_coming (se_var 0) (se_lst (sa_cons (se_lst (sa_nil)) (sa_nil))))
      (sss_cons (ss_exp (se_meth m_Plan_add_place (hc.hr.mono (by omega)) (se_var 0) (sa_cons (se_str) (sa_cons (se_lst (sa_cons (se_meth m_Plan_lay (hc.hr.mono (by omega)) (se_var 0) (sa_cons (se_var 1) (sa_cons (se_tup (sa_cons (se_int) (sa_cons (se_int) (sa_nil)))) (sa_nil))) (al_cons (al_cons al_nil))) (sa_nil))) (sa_nil))) (al_cons (al_cons al_nil))))
      (sss_cons (ss_lc2 (i := 2) (own := [("place", 3), ("starts", 4), ("start", 5)]) hc.calm hc.nd (si_enum T.b_enumerate (sa_cons (se_fld T.cls_Plan T.nf_coming (se_var 0)) (sa_nil))) (blkOk_by (N := ["self", "body", "heads", "place", "starts", "start", "arrow", "head"]) (sc := defScope s_Plan_init) (by decide +kernel)) rfl (by decide) (fun _ _ _ _ _ => sg_tup hc.calm (sgs_cons (sg_name 3 hc.nd) (sgs_cons (sg_name 4 hc.nd) (sgs_nil)))) (fun _ _ _ _ _ => sts_nil) (fun _ _ _ _ _ => si_e (se_var 4)) (fun _ _ _ _ _ => sg_name 5 hc.nd) (fun _ _ _ _ _ => sts_nil) (fun _ _ _ _ _ => se_tup (sa_cons (se_var 5) (sa_cons (se_var 3) (sa_nil)))))
      (sss_one (ss_fld T.cls_Plan T.nf_ways (se_var 0) (se_dcT (own := [("arrow", 6), ("start", 5), ("head", 7)]) (Nat.lt_of_succ_lt hu1) hc.calm hc.nd (si_enum T.b_enumerate (sa_cons (se_cb (ca_sorted3 hu65) T.b_sorted bb_sorted (sa_cons (se_var 2) (sa_nil))) (sa_nil))) (blkOk_by (N := ["self", "body", "heads", "place", "starts", "start", "arrow", "head"]) (sc := defScope s_Plan_init) (by decide +kernel)) rfl (fun _ _ _ _ _ => sg_tup hc.calm (sgs_cons (sg_name 6 hc.nd) (sgs_cons (sg_tup hc.calm (sgs_cons (sg_name 5 hc.nd) (sgs_cons (sg_name 7 hc.nd) (sgs_nil)))) (sgs_nil)))) (fun _ _ _ _ _ => sts_nil) (fun _ _ _ _ _ => se_var 5) (fun _ _ _ _ _ => se_tup (sa_cons (se_var 6) (sa_cons (se_var 7) (sa_nil))))))))))
abbrev s_Runner_init : Stmt := clsS 32 0
theorem sc_Runner_init : FnScope ["self", "book", "begins", "body"] ["self", "book", "begins"] (defScope s_Runner_init) := ⟨rfl, rfl, rfl, by decide +kernel, rfl, by decide +kernel, by decide +kernel⟩
theorem ok_Runner_init {f : Addr} {fd : FuncData} (T : Txt P w K mg base g) (h_are_whole : FnA P w K mg base g 2 "are_whole" 1 f_are_whole) (h_is_row : FnA P w K mg base g 1 "is_row" 2 f_is_row) (mk_Plan : MkA P w K mg base g 22 "Plan" 2 f_Plan_init) (F : Fun K "__init__" "Runner.__init__" s_Runner_init f fd) : FnOk P w K mg base (L2.CX P w) (23 + 1) f fd ["self", "book", "begins"] (spOf K g 3 f_Runner_init) :=
  fn_okA F sc_Runner_init rfl fun cdv A outer s H E hr => by
  have hc : CxA (cxOf (L2.CX P w) P w K mg base ["self", "book", "begins", "body"] "Runner.__init__" (defScope s_Runner_init) f cdv A outer s H E) 23 := ⟨rfl, sc_Runner_init.nd, passes_of rfl, hr⟩
  have hu1 := hu_of hr
  have hu65 := hu65_of hr
  exact sss_cons (ss_if (sw_st (sw_or (st_not (st_val (se_call h_is_row (hc.hr.mono (by omega)) rfl (sa_cons (se_var 2) (sa_cons (se_fld T.cls_Book T.nf_cells (se_var 1)) (sa_nil))) (al_cons (al_cons al_nil))))) (sw_or1 (st_not (st_val (se_call h_are_whole (hc.hr.mono (by omega)) rfl (sa_cons (se_var 2) (sa_nil)) (al_cons al_nil)))))))
      (sss_one (ss_raise0 T.er_NoContents hc.calm (hc.hr.mono (by omega))))
      (sss_nil))
      (sss_cons (ss_fld T.cls_Runner T.nf_book (se_var 0) (se_var 1))
      (sss_cons (ss_fld T.cls_Runner T.nf_plans (se_var 0) (se_lc (own := [("body", 3)]) hc.calm hc.nd (si_e (se_fld T.cls_Book T.nf_routines (se_var 1))) (blkOk_by (N := ["self", "book", "begins", "body"]) (sc := defScope s_Runner_init) (by decide +kernel)) rfl (fun _ _ _ _ _ => sg_name 3 hc.nd) (fun _ _ _ _ _ => sts_nil) (fun _ _ _ _ _ => se_mk mk_Plan (hc.hr.mono (by omega)) (sa_cons (se_var 3) (sa_nil)) (al_cons al_nil))))
      (sss_cons (ss_fld T.cls_Runner T.nf_stands (se_var 0) (se_tup (sa_cons (se_tup (sa_cons (se_int) (sa_cons (se_int) (sa_nil)))) (sa_nil))))
      (sss_cons (ss_fld T.cls_Runner T.nf_holding (se_var 0) (se_ct ca_tuple T.b_tuple bb_tuple (sa_cons (se_var 2) (sa_nil))))
      (sss_cons (ss_fld T.cls_Runner T.nf_spoken (se_var 0) (se_lst (sa_nil)))
      (sss_cons (ss_fld T.cls_Runner T.nf_gone (se_var 0) (se_lst (sa_nil)))
      (sss_cons (ss_fld T.cls_Runner T.nf_past (se_var 0) (se_lst (sa_nil)))
      (sss_one (ss_fld T.cls_Runner T.nf_marks (se_var 0) (se_dnewT))))))))))
abbrev s_ran : Stmt := topS 30
theorem sc_ran : FnScope ["book", "begins", "most", "runner", "word"] ["book", "begins", "most"] (defScope s_ran) := ⟨rfl, rfl, rfl, by decide +kernel, rfl, by decide +kernel, by decide +kernel⟩
theorem ok_ran {f : Addr} {fd : FuncData} (T : Txt P w K mg base g) (m_Runner_contents : MetA P w K mg base g 1 "Runner" "contents" 1 f_Runner_contents) (m_Runner_go : MetA P w K mg base g 4 "Runner" "go" 2 f_Runner_go) (m_Runner_said : MetA P w K mg base g 1 "Runner" "said" 1 f_Runner_said) (m_Runner_word : MetA P w K mg base g 2 "Runner" "word" 1 f_Runner_word) (mk_Runner : MkA P w K mg base g 24 "Runner" 3 f_Runner_init) (F : Fun K "ran" "ran" s_ran f fd) : FnOk P w K mg base (L2.CX P w) (25 + 1) f fd ["book", "begins", "most"] (spOf K g 3 f_ran) :=
  fn_okA F sc_ran rfl fun cdv A outer s H E hr => by
  have hc : CxA (cxOf (L2.CX P w) P w K mg base ["book", "begins", "most", "runner", "word"] "ran" (defScope s_ran) f cdv A outer s H E) 25 := ⟨rfl, sc_ran.nd, passes_of rfl, hr⟩
  have hu1 := hu_of hr
  have hu65 := hu65_of hr
  exact sss_cons (ss_asg (ws := [3]) (se_mk mk_Runner (hc.hr.mono (by omega)) (sa_cons (se_var 0) (sa_cons (se_var 1) (sa_nil))) (al_cons (al_cons al_nil))) (sg_name 3 hc.nd))
      (sss_cons (ss_exp (se_meth m_Runner_go (hc.hr.mono (by omega)) (se_var 3) (sa_cons (se_var 2) (sa_nil)) (al_cons al_nil)))
      (sss_cons (ss_asg (ws := [4]) (se_meth0 m_Runner_word (hc.hr.mono (by omega)) (se_var 3)) (sg_name 4 hc.nd))
      (sss_cons (ss_if (st_cmp (opA_eq hc.hr.units) (se_var 4) (se_str))
      (sss_one (ss_asg (ws := [4]) (se_str) (sg_name 4 hc.nd)))
      (sss_nil))
      (sss_one (ss_ret (se_tup (sa_cons (se_meth0 m_Runner_said (hc.hr.mono (by omega)) (se_var 3)) (sa_cons (se_var 4) (sa_cons (se_meth0 m_Runner_contents (hc.hr.mono (by omega)) (se_var 3)) (sa_nil))))))))))
abbrev s_is_sum : Stmt := topS 23
theorem sc_is_sum : FnScope ["thing", "cells", "many"] ["thing", "cells"] (defScope s_is_sum) := ⟨rfl, rfl, rfl, by decide +kernel, rfl, by decide +kernel, by decide +kernel⟩
theorem ok_is_sum {f : Addr} {fd : FuncData} (T : Txt P w K mg base g) (h_is_between : FnA P w K mg base g 2 "is_between" 3 f_is_between) (h_is_row : FnA P w K mg base g 1 "is_row" 2 f_is_row) (F : Fun K "is_sum" "is_sum" s_is_sum f fd) : FnOk P w K mg base (L2.CX P w) (2 + 1) f fd ["thing", "cells"] (spOf K g 2 f_is_sum) :=
  fn_okA F sc_is_sum rfl fun cdv A outer s H E hr => by
  have hc : CxA (cxOf (L2.CX P w) P w K mg base ["thing", "cells", "many"] "is_sum" (defScope s_is_sum) f cdv A outer s H E) 2 := ⟨rfl, sc_is_sum.nd, passes_of rfl, hr⟩
  have hu1 := hu_of hr
  have hu65 := hu65_of hr
  exact sss_one (ss_ret (se_and (se_call h_is_row (hc.hr.mono (by omega)) rfl (sa_cons (se_var 0) (sa_cons (se_bin opA_add (se_var 1) (se_int)) (sa_nil))) (al_cons (al_cons al_nil))) (se_one (se_cb (ca_all hc.calm) T.b_all bb_all (sa_cons (se_lc (own := [("many", 2)]) hc.calm hc.nd (si_e (se_var 0)) (blkOk_by (N := ["thing", "cells", "many"]) (sc := defScope s_is_sum) (by decide +kernel)) rfl (fun _ _ _ _ _ => sg_name 2 hc.nd) (fun _ _ _ _ _ => sts_nil) (fun _ _ _ _ _ => se_call h_is_between (hc.hr.mono (by omega)) rfl (sa_cons (se_var 2) (sa_cons (se_un unA_neg (se_globI T.c_MOST_MULTIPLE)) (sa_cons (se_globI T.c_MOST_MULTIPLE) (sa_nil)))) (al_cons (al_cons (al_cons al_nil))))) (sa_nil))))))
abbrev s_is_test : Stmt := topS 24
theorem sc_is_test : FnScope ["thing", "cells"] ["thing", "cells"] (defScope s_is_test) := ⟨rfl, rfl, rfl, by decide +kernel, rfl, by decide +kernel, by decide +kernel⟩
theorem ok_is_test {f : Addr} {fd : FuncData} (T : Txt P w K mg base g) (h_is_row : FnA P w K mg base g 1 "is_row" 2 f_is_row) (h_is_sum : FnA P w K mg base g 3 "is_sum" 2 f_is_sum) (F : Fun K "is_test" "is_test" s_is_test f fd) : FnOk P w K mg base (L2.CX P w) (3 + 1) f fd ["thing", "cells"] (spOf K g 2 f_is_test) :=
  fn_okA F sc_is_test rfl fun cdv A outer s H E hr => by
  have hc : CxA (cxOf (L2.CX P w) P w K mg base ["thing", "cells"] "is_test" (defScope s_is_test) f cdv A outer s H E) 3 := ⟨rfl, sc_is_test.nd, passes_of rfl, hr⟩
  have hu1 := hu_of hr
  have hu65 := hu65_of hr
  exact sss_cons (ss_if (sw_st (sw_or (st_not (st_val (se_call h_is_row (hc.hr.mono (by omega)) rfl (sa_cons (se_var 0) (sa_cons (se_int) (sa_nil))) (al_cons (al_cons al_nil))))) (sw_or1 (st_not (st_val (se_isi T.b_isinstance T.b_str bb_str (se_ix (ixA hu1) (se_var 0) (se_int))))))))
      (sss_one (ss_ret (se_bl)))
      (sss_nil))
      (sss_one (ss_ret (se_and (se_cmp (opA_in hu65) (se_ix (ixA hu1) (se_var 0) (se_int)) (se_tup (sa_cons (se_str) (sa_cons (se_str) (sa_nil))))) (se_and (se_call h_is_sum (hc.hr.mono (by omega)) rfl (sa_cons (se_ix (ixA hu1) (se_var 0) (se_int)) (sa_cons (se_var 1) (sa_nil))) (al_cons (al_cons al_nil))) (se_one (se_call h_is_sum (hc.hr.mono (by omega)) rfl (sa_cons (se_ix (ixA hu1) (se_var 0) (se_int)) (sa_cons (se_var 1) (sa_nil))) (al_cons (al_cons al_nil))))))))
abbrev s_is_statement : Stmt := topS 22
theorem sc_is_statement : FnScope ["thing", "deep", "cells", "routines", "word", "bodies", "body"] ["thing", "deep", "cells", "routines"] (defScope s_is_statement) := ⟨rfl, rfl, rfl, by decide +kernel, rfl, by decide +kernel, by decide +kernel⟩
theorem ok_is_statement {n : Nat} {f : Addr} {fd : FuncData} (T : Txt P w K mg base g) (h_is_between : FnA P w K mg base g 2 "is_between" 3 f_is_between) (h_is_body : FnA P w K mg base g (4 + n) "is_body" 4 (f_is_body n)) (h_is_sum : FnA P w K mg base g 3 "is_sum" 2 f_is_sum) (h_is_test : FnA P w K mg base g 4 "is_test" 2 f_is_test) (F : Fun K "is_statement" "is_statement" s_is_statement f fd) : FnOk P w K mg base (L2.CX P w) ((4 + n) + 1) f fd ["thing", "deep", "cells", "routines"] (spOf K g 4 (f_is_statement (n + 1))) :=
  fn_okA F sc_is_statement rfl fun cdv A outer s H E hr => by
  have hc : CxA (cxOf (L2.CX P w) P w K mg base ["thing", "deep", "cells", "routines", "word", "bodies", "body"] "is_statement" (defScope s_is_statement) f cdv A outer s H E) (4 + n) := ⟨rfl, sc_is_statement.nd, passes_of rfl, hr⟩
  have hu1 := hu_of hr
  have hu65 := hu65_of hr
  exact sss_cons (ss_if (sw_st (sw_or (st_not (st_val (se_isi T.b_isinstance T.b_tuple bb_tuple (se_var 0)))) (sw_or (st_cmp (opA_eq hc.hr.units) (se_cb ca_len T.b_len bb_len (sa_cons (se_var 0) (sa_nil))) (se_int)) (sw_or1 (st_not (st_val (se_isi T.b_isinstance T.b_str bb_str (se_ix (ixA hu1) (se_var 0) (se_int)))))))))
      (sss_one (ss_ret (se_bl)))
      (sss_nil))
      (sss_cons (ss_asg (ws := [4]) (se_ix (ixA hu1) (se_var 0) (se_int)) (sg_name 4 hc.nd))
      (sss_cons (ss_if (st_cmp (opA_eq hc.hr.units) (se_var 4) (se_str))
      (sss_one (ss_ret (se_and (se_cmp (opA_eq hc.hr.units) (se_cb ca_len T.b_len bb_len (sa_cons (se_var 0) (sa_nil))) (se_int)) (se_and (se_call h_is_between (hc.hr.mono (by omega)) rfl (sa_cons (se_ix (ixA hu1) (se_var 0) (se_int)) (sa_cons (se_int) (sa_cons (se_bin opA_sub (se_var 2) (se_int)) (sa_nil)))) (al_cons (al_cons (al_cons al_nil)))) (se_one (se_call h_is_sum (hc.hr.mono (by omega)) rfl (sa_cons (se_ix (ixA hu1) (se_var 0) (se_int)) (sa_cons (se_var 2) (sa_nil))) (al_cons (al_cons al_nil))))))))
      (sss_nil))
      (sss_cons (ss_if (st_cmp (opA_eq hc.hr.units) (se_var 4) (se_str))
      (sss_one (ss_ret (se_and (se_cmp (opA_eq hc.hr.units) (se_cb ca_len T.b_len bb_len (sa_cons (se_var 0) (sa_nil))) (se_int)) (se_one (se_call h_is_sum (hc.hr.mono (by omega)) rfl (sa_cons (se_ix (ixA hu1) (se_var 0) (se_int)) (sa_cons (se_var 2) (sa_nil))) (al_cons (al_cons al_nil)))))))
      (sss_nil))
      (sss_cons (ss_if (st_cmp (opA_eq hc.hr.units) (se_var 4) (se_str))
      (sss_one (ss_ret (se_and (se_cmp (opA_eq hc.hr.units) (se_cb ca_len T.b_len bb_len (sa_cons (se_var 0) (sa_nil))) (se_int)) (se_one (se_call h_is_between (hc.hr.mono (by omega)) rfl (sa_cons (se_ix (ixA hu1) (se_var 0) (se_int)) (sa_cons (se_int) (sa_cons (se_bin opA_sub (se_var 3) (se_int)) (sa_nil)))) (al_cons (al_cons (al_cons al_nil))))))))
      (sss_nil))
      (sss_cons (ss_if (st_cmp (opA_eq hc.hr.units) (se_var 4) (se_str))
      (sss_one (ss_asg (ws := [5]) (se_int) (sg_name 5 hc.nd)))
      (sss_one (ss_if (st_cmp (opA_eq hc.hr.units) (se_var 4) (se_str))
      (sss_one (ss_asg (ws := [5]) (se_int) (sg_name 5 hc.nd)))
      (sss_one (ss_ret (se_bl))))))
      (sss_cons (ss_if (sw_st (sw_or (st_cmp (opA_ne hc.hr.units) (se_cb ca_len T.b_len bb_len (sa_cons (se_var 0) (sa_nil))) (se_bin opA_add (se_int) (se_var 5))) (sw_or1 (st_not (st_val (se_call h_is_test (hc.hr.mono (by omega)) rfl (sa_cons (se_ix (ixA hu1) (se_var 0) (se_int)) (sa_cons (se_var 2) (sa_nil))) (al_cons (al_cons al_nil))))))))
      (sss_one (ss_ret (se_bl)))
      (sss_nil))
      (sss_one (ss_ret (se_cb (ca_all hc.calm) T.b_all bb_all (sa_cons (se_lc (own := [("body", 6)]) hc.calm hc.nd (si_e (se_sl (se_var 0) (so_some (se_int)) (so_none))) (blkOk_by (N := ["thing", "deep", "cells", "routines", "word", "bodies", "body"]) (sc := defScope s_is_statement) (by decide +kernel)) rfl (fun _ _ _ _ _ => sg_name 6 hc.nd) (fun _ _ _ _ _ => sts_nil) (fun _ _ _ _ _ => se_call h_is_body (hc.hr.mono (by omega)) rfl (sa_cons (se_var 6) (sa_cons (se_bin opA_add (se_var 1) (se_int)) (sa_cons (se_var 2) (sa_cons (se_var 3) (sa_nil))))) (al_cons (al_cons (al_cons (al_cons al_nil)))))) (sa_nil)))))))))))
abbrev s_is_body : Stmt := topS 21
theorem sc_is_body : FnScope ["thing", "deep", "cells", "routines", "item"] ["thing", "deep", "cells", "routines"] (defScope s_is_body) := ⟨rfl, rfl, rfl, by decide +kernel, rfl, by decide +kernel, by decide +kernel⟩
theorem ok_is_body {n : Nat} {f : Addr} {fd : FuncData} (T : Txt P w K mg base g) (h_is_statement : FnA P w K mg base g (4 + n) "is_statement" 4 (f_is_statement n)) (F : Fun K "is_body" "is_body" s_is_body f fd) : FnOk P w K mg base (L2.CX P w) ((4 + n) + 1) f fd ["thing", "deep", "cells", "routines"] (spOf K g 4 (f_is_body (n + 1))) :=
  fn_okA F sc_is_body rfl fun cdv A outer s H E hr => by
  have hc : CxA (cxOf (L2.CX P w) P w K mg base ["thing", "deep", "cells", "routines", "item"] "is_body" (defScope s_is_body) f cdv A outer s H E) (4 + n) := ⟨rfl, sc_is_body.nd, passes_of rfl, hr⟩
  have hu1 := hu_of hr
  have hu65 := hu65_of hr
  exact sss_cons (ss_if (sw_st (sw_or (st_not (st_val (se_isi T.b_isinstance T.b_tuple bb_tuple (se_var 0)))) (sw_or1 (st_cmp opA_gt (se_var 1) (se_globI T.c_MOST_DEEP)))))
      (sss_one (ss_ret (se_bl)))
      (sss_nil))
      (sss_one (ss_ret (se_cb (ca_all hc.calm) T.b_all bb_all (sa_cons (se_lc (own := [("item", 4)]) hc.calm hc.nd (si_e (se_var 0)) (blkOk_by (N := ["thing", "deep", "cells", "routines", "item"]) (sc := defScope s_is_body) (by decide +kernel)) rfl (fun _ _ _ _ _ => sg_name 4 hc.nd) (fun _ _ _ _ _ => sts_nil) (fun _ _ _ _ _ => se_call h_is_statement (hc.hr.mono (by omega)) rfl (sa_cons (se_var 4) (sa_cons (se_var 1) (sa_cons (se_var 2) (sa_cons (se_var 3) (sa_nil))))) (al_cons (al_cons (al_cons (al_cons al_nil)))))) (sa_nil)))))
abbrev s_places_in : Stmt := topS 25
theorem sc_places_in : FnScope ["body", "many", "statement"] ["body"] (defScope s_places_in) := ⟨rfl, rfl, rfl, by decide +kernel, rfl, by decide +kernel, by decide +kernel⟩
theorem ok_places_in {n : Nat} {f : Addr} {fd : FuncData} (T : Txt P w K mg base g) (h_places_in : FnA P w K mg base g (0 + n) "places_in" 1 (f_places_in n)) (F : Fun K "places_in" "places_in" s_places_in f fd) : FnOk P w K mg base (L2.CX P w) ((0 + n) + 1) f fd ["body"] (spOf K g 1 (f_places_in (n + 1))) :=
  fn_okA F sc_places_in rfl fun cdv A outer s H E hr => by
  have hc : CxA (cxOf (L2.CX P w) P w K mg base ["body", "many", "statement"] "places_in" (defScope s_places_in) f cdv A outer s H E) (0 + n) := ⟨rfl, sc_places_in.nd, passes_of rfl, hr⟩
  have hu1 := hu_of hr
  have hu65 := hu65_of hr
  exact sss_cons (ss_asg (ws := [1]) (se_int) (sg_name 1 hc.nd))
      (sss_cons (ss_for (ws := [2]) hc.own hc.calm (si_e (se_var 0)) (sg_name 2 hc.nd)
      (sss_one (ss_if (st_cmp (opA_eq hc.hr.units) (se_ix (ixA hu1) (se_var 2) (se_int)) (se_str))
      (sss_one (ss_aug 1 hc.nd ip_add (se_bin opA_add (se_bin opA_add (se_int) (se_call h_places_in (hc.hr.mono (by omega)) rfl (sa_cons (se_ix (ixA hu1) (se_var 2) (se_int)) (sa_nil)) (al_cons al_nil))) (se_call h_places_in (hc.hr.mono (by omega)) rfl (sa_cons (se_ix (ixA hu1) (se_var 2) (se_int)) (sa_nil)) (al_cons al_nil)))))
      (sss_one (ss_if (st_cmp (opA_eq hc.hr.units) (se_ix (ixA hu1) (se_var 2) (se_int)) (se_str))
      (sss_one (ss_aug 1 hc.nd ip_add (se_bin opA_add (se_int) (se_call h_places_in (hc.hr.mono (by omega)) rfl (sa_cons (se_ix (ixA hu1) (se_var 2) (se_int)) (sa_nil)) (al_cons al_nil)))))
      (sss_one (ss_aug 1 hc.nd ip_add (se_int))))))))
      (sss_one (ss_ret (se_var 1))))
abbrev s_wrong_part : Stmt := topS 20
theorem sc_wrong_part : FnScope ["cells", "routines", "number", "body"] ["cells", "routines"] (defScope s_wrong_part) := ⟨rfl, rfl, rfl, by decide +kernel, rfl, by decide +kernel, by decide +kernel⟩
theorem ok_wrong_part {f : Addr} {fd : FuncData} (T : Txt P w K mg base g) (h_is_between : FnA P w K mg base g 2 "is_between" 3 f_is_between) (h_is_body : FnA P w K mg base g 24 "is_body" 4 (f_is_body 20)) (h_places_in : FnA P w K mg base g 20 "places_in" 1 (f_places_in 20)) (F : Fun K "wrong_part" "wrong_part" s_wrong_part f fd) : FnOk P w K mg base (L2.CX P w) (24 + 1) f fd ["cells", "routines"] (spOf K g 2 f_wrong_part) :=
  fn_okA F sc_wrong_part rfl fun cdv A outer s H E hr => by
  have hc : CxA (cxOf (L2.CX P w) P w K mg base ["cells", "routines", "number", "body"] "wrong_part" (defScope s_wrong_part) f cdv A outer s H E) 24 := ⟨rfl, sc_wrong_part.nd, passes_of rfl, hr⟩
  have hu1 := hu_of hr
  have hu65 := hu65_of hr
  exact sss_cons (ss_if (st_not (st_val (se_call h_is_between (hc.hr.mono (by omega)) rfl (sa_cons (se_var 0) (sa_cons (se_int) (sa_cons (se_globI T.c_MOST_CELLS) (sa_nil)))) (al_cons (al_cons (al_cons al_nil))))))
      (sss_one (ss_ret (se_tup (sa_cons (se_str) (sa_nil)))))
      (sss_nil))
      (sss_cons (ss_if (sw_st (sw_or (st_not (st_val (se_isi T.b_isinstance T.b_tuple bb_tuple (se_var 1)))) (sw_or1 (st_not (st_chain opA_le opA_le (se_int) (se_cb ca_len T.b_len bb_len (sa_cons (se_var 1) (sa_nil))) (se_globI T.c_MOST_ROUTINES))))))
      (sss_one (ss_ret (se_tup (sa_cons (se_str) (sa_nil)))))
      (sss_nil))
      (sss_cons (ss_for (ws := [2, 3]) hc.own hc.calm (si_enum T.b_enumerate (sa_cons (se_var 1) (sa_nil))) (sg_tup hc.calm (sgs_cons (sg_name 2 hc.nd) (sgs_cons (sg_name 3 hc.nd) (sgs_nil))))
      (sss_one (ss_if (sw_st (sw_or (st_not (st_val (se_call h_is_body (hc.hr.mono (by omega)) rfl (sa_cons (se_var 3) (sa_cons (se_int) (sa_cons (se_var 0) (sa_cons (se_cb ca_len T.b_len bb_len (sa_cons (se_var 1) (sa_nil))) (sa_nil))))) (al_cons (al_cons (al_cons (al_cons al_nil))))))) (sw_or1 (st_cmp opA_gt (se_bin opA_add (se_int) (se_call h_places_in (hc.hr.mono (by omega)) rfl (sa_cons (se_var 3) (sa_nil)) (al_cons al_nil))) (se_globI T.c_MOST_ROUTINE_PLACES)))))
      (sss_one (ss_ret (se_tup (sa_cons (se_str) (sa_cons (se_var 2) (sa_nil))))))
      (sss_nil))))
      (sss_one (ss_ret (se_non)))))
abbrev s_Book_init : Stmt := clsS 19 0
theorem sc_Book_init : FnScope ["self", "cells", "routines", "part"] ["self", "cells", "routines"] (defScope s_Book_init) := ⟨rfl, rfl, rfl, by decide +kernel, rfl, by decide +kernel, by decide +kernel⟩
theorem ok_Book_init {f : Addr} {fd : FuncData} (T : Txt P w K mg base g) (h_wrong_part : FnA P w K mg base g 25 "wrong_part" 2 f_wrong_part) (F : Fun K "__init__" "Book.__init__" s_Book_init f fd) : FnOk P w K mg base (L2.CX P w) (25 + 1) f fd ["self", "cells", "routines"] (spOf K g 3 f_Book_init) :=
  fn_okA F sc_Book_init rfl fun cdv A outer s H E hr => by
  have hc : CxA (cxOf (L2.CX P w) P w K mg base ["self", "cells", "routines", "part"] "Book.__init__" (defScope s_Book_init) f cdv A outer s H E) 25 := ⟨rfl, sc_Book_init.nd, passes_of rfl, hr⟩
  have hu1 := hu_of hr
  have hu65 := hu65_of hr
  exact sss_cons (ss_asg (ws := [3]) (se_call h_wrong_part (hc.hr.mono (by omega)) rfl (sa_cons (se_var 1) (sa_cons (se_var 2) (sa_nil))) (al_cons (al_cons al_nil))) (sg_name 3 hc.nd))
      (sss_cons (ss_if (st_cmp opA_notN (se_var 3) (se_non))
      (sss_one (ss_raise1 T.er_BadBook hc.calm (hc.hr.mono (by omega)) (se_var 3)))
      (sss_nil))
      (sss_cons (ss_fld T.cls_Book T.nf_cells (se_var 0) (se_var 1))
      (sss_one (ss_fld T.cls_Book T.nf_routines (se_var 0) (se_var 2)))))
abbrev s_law : Stmt := topS 49
theorem sc_law : FnScope ["script", "hand", "turn", "parts", "book", "begins", "some", "elder", "most", "due", "told"] ["script"] (defScope s_law) := ⟨rfl, rfl, rfl, by decide +kernel, rfl, by decide +kernel, by decide +kernel⟩
theorem ok_law {f : Addr} {fd : FuncData} (T : Txt P w K mg base g) (h_law_any : FnA P w K mg base g 2 "_law_any" 2 f_law_any) (h_law_begins : FnA P w K mg base g 3 "_law_begins" 2 f_law_begins) (h_law_draw : FnA P w K mg base g 1 "_law_draw" 2 f_law_draw) (h_law_hand : FnA P w K mg base g 1 "_law_hand" 1 f_law_hand) (h_law_is : FnA P w K mg base g 20 "_law_is" 2 (f_law_is 20)) (h_law_parts : FnA P w K mg base g 41 "_law_parts" 1 f_law_parts) (h_law_run : FnA P w K mg base g 3 "_law_run" 3 f_law_run) (h_ran : FnA P w K mg base g 26 "ran" 3 f_ran) (mk_Book : MkA P w K mg base g 26 "Book" 3 f_Book_init) (F : Fun K "law" "law" s_law f fd) : FnOk P w K mg base (L2.CX P w) (41 + 1) f fd ["script"] (spOf K g 1 f_law) :=
  fn_okA F sc_law rfl fun cdv A outer s H E hr => by
  have hc : CxA (cxOf (L2.CX P w) P w K mg base ["script", "hand", "turn", "parts", "book", "begins", "some", "elder", "most", "due", "told"] "law" (defScope s_law) f cdv A outer s H E) 41 := ⟨rfl, sc_law.nd, passes_of rfl, hr⟩
  have hu1 := hu_of hr
  have hu65 := hu65_of hr
  exact sss_cons (ss_asg (ws := [1]) (se_call h_law_hand (hc.hr.mono (by omega)) rfl (sa_cons (se_var 0) (sa_nil)) (al_cons al_nil)) (sg_name 1 hc.nd))
      (sss_cons (ss_for (ws := [2]) hc.own hc.calm (si_range1 T.b_range (sa_cons (se_int) (sa_nil))) (sg_name 2 hc.nd)
      (sss_cons (ss_asg (ws := [3]) (se_call h_law_parts (hc.hr.mono (by omega)) rfl (sa_cons (se_var 1) (sa_nil)) (al_cons al_nil)) (sg_name 3 hc.nd))
      (sss_cons (ss_par2 hc.calm hc.nd rfl rfl (sa_cons (se_mk mk_Book (hc.hr.mono (by omega)) (sa_cons (se_ix (ixA hu1) (se_var 3) (se_int)) (sa_cons (se_ix (ixA hu1) (se_var 3) (se_int)) (sa_nil))) (al_cons (al_cons al_nil))) (sa_cons (se_call h_law_begins (hc.hr.mono (by omega)) rfl (sa_cons (se_var 1) (sa_cons (se_ix (ixA hu1) (se_var 3) (se_int)) (sa_nil))) (al_cons (al_cons al_nil))) (sa_nil))) (by decide) rfl rfl rfl)
      (sss_cons (ss_asg (ws := [6]) (se_bin opA_add (se_lstRg1 hc.calm T.b_list T.b_range (se_bin opA_add (se_int) (se_call h_law_draw (hc.hr.mono (by omega)) rfl (sa_cons (se_var 1) (sa_cons (se_int) (sa_nil))) (al_cons (al_cons al_nil))))) (se_lst (sa_cons (se_call h_law_any (hc.hr.mono (by omega)) rfl (sa_cons (se_var 1) (sa_cons (se_lst (sa_cons (se_int) (sa_cons (se_int) (sa_cons (se_int) (sa_cons (se_int) (sa_nil)))))) (sa_nil))) (al_cons (al_cons al_nil))) (sa_nil)))) (sg_name 6 hc.nd))
      (sss_cons (ss_asg (ws := [7]) (se_tup (sa_nil)) (sg_name 7 hc.nd))
      (sss_one (ss_for (ws := [8]) hc.own hc.calm (si_e (se_var 6)) (sg_name 8 hc.nd)
      (sss_cons (ss_asg (ws := [9]) (se_call h_law_run (hc.hr.mono (by omega)) rfl (sa_cons (se_var 3) (sa_cons (se_var 5) (sa_cons (se_var 8) (sa_nil)))) (al_cons (al_cons (al_cons al_nil)))) (sg_name 9 hc.nd))
      (sss_cons (ss_if (st_cmp opA_isN (se_var 9) (se_non))
      (sss_one (ss_brk))
      (sss_nil))
      (sss_cons (ss_asg (ws := [10]) (se_call h_ran (hc.hr.mono (by omega)) rfl (sa_cons (se_var 4) (sa_cons (se_var 5) (sa_cons (se_var 8) (sa_nil)))) (al_cons (al_cons (al_cons al_nil)))) (sg_name 10 hc.nd))
      (sss_cons (ss_if (sw_st (sw_or (st_not (st_val (se_call h_law_is (hc.hr.mono (by omega)) rfl (sa_cons (se_var 10) (sa_cons (se_var 9) (sa_nil))) (al_cons (al_cons al_nil))))) (sw_or1 (st_cmp (opA_ne hc.hr.units) (se_sl (se_ix (ixA hu1) (se_var 10) (se_int)) (so_none) (so_some (se_cb ca_len T.b_len bb_len (sa_cons (se_var 7) (sa_nil))))) (se_var 7)))))
      (sss_one (ss_ret (se_bl)))
      (sss_nil))
      (sss_one (ss_asg (ws := [7]) (se_ix (ixA hu1) (se_var 10) (se_int)) (sg_name 7 hc.nd))))))))))))))
      (sss_one (ss_ret (se_bl))))
end
theorem all_mk {l : PySem.W.OpenLaw} {w : World} {K : PySem.W.Frag} {h : Heap} {mg : Str → Option Value} {fa : Addr} {t_MOST_CELLS : Tok} {t_MOST_ROUTINES : Tok} {t_MOST_DEEP : Tok} {t_MOST_ROUTINE_PLACES : Tok} {t_MOST_MULTIPLE : Tok} {t_MOST_STEPS : Tok} {t_MOST_ROUTINES_BEGUN : Tok} (X : K.In h) (G : h.Ns mainGlobals mg) (hfa : mg "law" = some (.ref fa))
    (d_law_draw : DefIn K "_law_draw" "_law_draw" s_law_draw)
    (d_law_any : DefIn K "_law_any" "_law_any" s_law_any)
    (d_law_begins : DefIn K "_law_begins" "_law_begins" s_law_begins)
    (d_law_hand : DefIn K "_law_hand" "_law_hand" s_law_hand)
    (d_law_is : DefIn K "_law_is" "_law_is" s_law_is)
    (d_law_size : DefIn K "_law_size" "_law_size" s_law_size)
    (d_law_alone : DefIn K "_law_alone" "_law_alone" s_law_alone)
    (d_law_sum : DefIn K "_law_sum" "_law_sum" s_law_sum)
    (d_law_test : DefIn K "_law_test" "_law_test" s_law_test)
    (d_law_statement : DefIn K "_law_statement" "_law_statement" s_law_statement)
    (d_law_body : DefIn K "_law_body" "_law_body" s_law_body)
    (d_law_parts : DefIn K "_law_parts" "_law_parts" s_law_parts)
    (d_law_value : DefIn K "_law_value" "_law_value" s_law_value)
    (d_law_test_holds : DefIn K "_law_test_holds" "_law_test_holds" s_law_test_holds)
    (d_law_run : DefIn K "_law_run" "_law_run" s_law_run)
    (d_Runner_contents : MetIn K "Runner" "contents" "Runner.contents" s_Runner_contents)
    (d_Runner_go_along : MetIn K "Runner" "go_along" "Runner.go_along" s_Runner_go_along)
    (d_Runner_close_routine : MetIn K "Runner" "close_routine" "Runner.close_routine" s_Runner_close_routine)
    (d_Runner_set_cell : MetIn K "Runner" "set_cell" "Runner.set_cell" s_Runner_set_cell)
    (d_Runner_task : MetIn K "Runner" "task" "Runner.task" s_Runner_task)
    (d_Runner_total_of : MetIn K "Runner" "total_of" "Runner.total_of" s_Runner_total_of)
    (d_Runner_test_holds : MetIn K "Runner" "test_holds" "Runner.test_holds" s_Runner_test_holds)
    (d_word_of : DefIn K "word_of" "word_of" s_word_of)
    (d_Runner_word : MetIn K "Runner" "word" "Runner.word" s_Runner_word)
    (d_Runner_step : MetIn K "Runner" "step" "Runner.step" s_Runner_step)
    (d_is_whole : DefIn K "is_whole" "is_whole" s_is_whole)
    (d_is_between : DefIn K "is_between" "is_between" s_is_between)
    (d_Runner_go : MetIn K "Runner" "go" "Runner.go" s_Runner_go)
    (d_Runner_said : MetIn K "Runner" "said" "Runner.said" s_Runner_said)
    (d_are_whole : DefIn K "are_whole" "are_whole" s_are_whole)
    (d_is_row : DefIn K "is_row" "is_row" s_is_row)
    (d_Plan_add_place : MetIn K "Plan" "add_place" "Plan.add_place" s_Plan_add_place)
    (d_Plan_lay_while : MetIn K "Plan" "lay_while" "Plan.lay_while" s_Plan_lay_while)
    (d_Plan_lay_if : MetIn K "Plan" "lay_if" "Plan.lay_if" s_Plan_lay_if)
    (d_Plan_lay : MetIn K "Plan" "lay" "Plan.lay" s_Plan_lay)
    (d_ran : DefIn K "ran" "ran" s_ran)
    (d_is_sum : DefIn K "is_sum" "is_sum" s_is_sum)
    (d_is_test : DefIn K "is_test" "is_test" s_is_test)
    (d_is_statement : DefIn K "is_statement" "is_statement" s_is_statement)
    (d_is_body : DefIn K "is_body" "is_body" s_is_body)
    (d_places_in : DefIn K "places_in" "places_in" s_places_in)
    (d_wrong_part : DefIn K "wrong_part" "wrong_part" s_wrong_part)
    (d_law : DefIn K "law" "law" s_law)
    (c_Book : ClsIn K "Book" "Book.__init__" s_Book_init)
    (c_Plan : ClsIn K "Plan" "Plan.__init__" s_Plan_init)
    (c_Runner : ClsIn K "Runner" "Runner.__init__" s_Runner_init)
    (n_cells : NoIn K "Book" "cells")
    (n_routines : NoIn K "Book" "routines")
    (n_coming : NoIn K "Plan" "coming")
    (n_tasks : NoIn K "Plan" "tasks")
    (n_ways : NoIn K "Plan" "ways")
    (n_book : NoIn K "Runner" "book")
    (n_gone : NoIn K "Runner" "gone")
    (n_holding : NoIn K "Runner" "holding")
    (n_marks : NoIn K "Runner" "marks")
    (n_past : NoIn K "Runner" "past")
    (n_plans : NoIn K "Runner" "plans")
    (n_spoken : NoIn K "Runner" "spoken")
    (n_stands : NoIn K "Runner" "stands")
    (e_BadBook : ErrIn K "BadBook" "BadBook.__init__" (clsS 4 0))
    (en_BadBook : NoIn K "BadBook" "part")
    (e_NoContents : ErrIn K "NoContents" "NoContents.__init__" (clsS 5 0))
    (e_NoNumber : ErrIn K "NoNumber" "NoNumber.__init__" (clsS 3 0))
    (e_NotRunning : ErrIn K "NotRunning" "NotRunning.__init__" (clsS 6 0))
    (b_abs : PySem.W.nsIn K mainGlobals "abs" = some none)
    (b_all : PySem.W.nsIn K mainGlobals "all" = some none)
    (b_bool : PySem.W.nsIn K mainGlobals "bool" = some none)
    (b_enumerate : PySem.W.nsIn K mainGlobals "enumerate" = some none)
    (b_int : PySem.W.nsIn K mainGlobals "int" = some none)
    (b_isinstance : PySem.W.nsIn K mainGlobals "isinstance" = some none)
    (b_len : PySem.W.nsIn K mainGlobals "len" = some none)
    (b_list : PySem.W.nsIn K mainGlobals "list" = some none)
    (b_max : PySem.W.nsIn K mainGlobals "max" = some none)
    (b_min : PySem.W.nsIn K mainGlobals "min" = some none)
    (b_range : PySem.W.nsIn K mainGlobals "range" = some none)
    (b_sorted : PySem.W.nsIn K mainGlobals "sorted" = some none)
    (b_str : PySem.W.nsIn K mainGlobals "str" = some none)
    (b_sum : PySem.W.nsIn K mainGlobals "sum" = some none)
    (b_tuple : PySem.W.nsIn K mainGlobals "tuple" = some none)
    (b_zip : PySem.W.nsIn K mainGlobals "zip" = some none)
    (k_MOST_CELLS : PySem.W.nsIn K mainGlobals "MOST_CELLS" = some (some (.int 4 t_MOST_CELLS)))
    (k_MOST_ROUTINES : PySem.W.nsIn K mainGlobals "MOST_ROUTINES" = some (some (.int 5 t_MOST_ROUTINES)))
    (k_MOST_DEEP : PySem.W.nsIn K mainGlobals "MOST_DEEP" = some (some (.int 8 t_MOST_DEEP)))
    (k_MOST_ROUTINE_PLACES : PySem.W.nsIn K mainGlobals "MOST_ROUTINE_PLACES" = some (some (.int 40 t_MOST_ROUTINE_PLACES)))
    (k_MOST_MULTIPLE : PySem.W.nsIn K mainGlobals "MOST_MULTIPLE" = some (some (.int 1000 t_MOST_MULTIPLE)))
    (k_MOST_STEPS : PySem.W.nsIn K mainGlobals "MOST_STEPS" = some (some (.int 5000 t_MOST_STEPS)))
    (k_MOST_ROUTINES_BEGUN : PySem.W.nsIn K mainGlobals "MOST_ROUTINES_BEGUN" = some (some (.int 20 t_MOST_ROUTINES_BEGUN)))
    (hl : ∀ ns : List Int, ns.length ≤ 63 → ∃ m, f_law [.ref 0] [.rol (ns.map D.int)] = .ok (.bl true) m) :
    ∃ fd : FuncData, (∀ (s : Shared) (v : Value), BindsTo s fd ⟨[v], []⟩ [("script", v)]) ∧ ∀ base : Heap, K.In base → base.Ns mainGlobals mg → FnOk l.prog w K mg base (L2.CX l.prog w) 42 fa fd ["script"] (spL K) := by
  obtain ⟨fl, fdl, eL, FL⟩ := d_law.ex
  have e := hfa.symm.trans (PySem.W.mg_of X G eL)
  cases e
  refine ⟨fdl, fun s v => by have z := (bindsA FL s v (fun _ _ _ _ _ _ => rfl)); exact z, fun base _ _ => fn_law (g := gOf mg) ?_ hl⟩
  have T : Txt l.prog w K mg base (gOf mg) := {
    b_abs := PySem.W.mg_none_of X G b_abs,
    b_all := PySem.W.mg_none_of X G b_all,
    b_bool := PySem.W.mg_none_of X G b_bool,
    b_enumerate := PySem.W.mg_none_of X G b_enumerate,
    b_int := PySem.W.mg_none_of X G b_int,
    b_isinstance := PySem.W.mg_none_of X G b_isinstance,
    b_len := PySem.W.mg_none_of X G b_len,
    b_list := PySem.W.mg_none_of X G b_list,
    b_max := PySem.W.mg_none_of X G b_max,
    b_min := PySem.W.mg_none_of X G b_min,
    b_range := PySem.W.mg_none_of X G b_range,
    b_sorted := PySem.W.mg_none_of X G b_sorted,
    b_str := PySem.W.mg_none_of X G b_str,
    b_sum := PySem.W.mg_none_of X G b_sum,
    b_tuple := PySem.W.mg_none_of X G b_tuple,
    b_zip := PySem.W.mg_none_of X G b_zip,
    c_MOST_CELLS := ⟨_, PySem.W.mg_of X G k_MOST_CELLS⟩,
    c_MOST_ROUTINES := ⟨_, PySem.W.mg_of X G k_MOST_ROUTINES⟩,
    c_MOST_DEEP := ⟨_, PySem.W.mg_of X G k_MOST_DEEP⟩,
    c_MOST_ROUTINE_PLACES := ⟨_, PySem.W.mg_of X G k_MOST_ROUTINE_PLACES⟩,
    c_MOST_MULTIPLE := ⟨_, PySem.W.mg_of X G k_MOST_MULTIPLE⟩,
    c_MOST_STEPS := ⟨_, PySem.W.mg_of X G k_MOST_STEPS⟩,
    c_MOST_ROUTINES_BEGUN := ⟨_, PySem.W.mg_of X G k_MOST_ROUTINES_BEGUN⟩,
    cls_Book := c_Book.cls X G,
    cls_Plan := c_Plan.cls X G,
    cls_Runner := c_Runner.cls X G,
    nf_cells := n_cells.no X G,
    nf_routines := n_routines.no X G,
    nf_coming := n_coming.no X G,
    nf_tasks := n_tasks.no X G,
    nf_ways := n_ways.no X G,
    nf_book := n_book.no X G,
    nf_gone := n_gone.no X G,
    nf_holding := n_holding.no X G,
    nf_marks := n_marks.no X G,
    nf_past := n_past.no X G,
    nf_plans := n_plans.no X G,
    nf_spoken := n_spoken.no X G,
    nf_stands := n_stands.no X G,
    g_BadBook := e_BadBook.g X G,
    g_NoContents := e_NoContents.g X G,
    g_NoNumber := e_NoNumber.g X G,
    g_NotRunning := e_NotRunning.g X G,
    er_BadBook := e_BadBook.er1 X G en_BadBook (fun _ _ F => F.binds (ps := ["self", "part"]) fun _ _ _ _ _ _ us hl => match us, hl with | [_, _], _ => rfl) ⟨rfl, rfl, rfl, by decide +kernel, rfl, by decide +kernel, by decide +kernel⟩ (fun a cdv A outer s H E => pss_one (ps_ost (pv 0) (pv 1))),
    er_NoContents := e_NoContents.er0 X G (fun _ _ F => F.binds (ps := ["self"]) fun _ _ _ _ _ _ us hl => match us, hl with | [_], _ => rfl) ⟨rfl, rfl, rfl, by decide +kernel, rfl, by decide +kernel, by decide +kernel⟩ ⟨_, rfl⟩,
    er_NoNumber := e_NoNumber.er0 X G (fun _ _ F => F.binds (ps := ["self"]) fun _ _ _ _ _ _ us hl => match us, hl with | [_], _ => rfl) ⟨rfl, rfl, rfl, by decide +kernel, rfl, by decide +kernel, by decide +kernel⟩ ⟨_, rfl⟩,
    er_NotRunning := e_NotRunning.er0 X G (fun _ _ F => F.binds (ps := ["self"]) fun _ _ _ _ _ _ us hl => match us, hl with | [_], _ => rfl) ⟨rfl, rfl, rfl, by decide +kernel, rfl, by decide +kernel, by decide +kernel⟩ ⟨_, rfl⟩ }
  have h_law_draw : FnA l.prog w K mg base (gOf mg) 1 "_law_draw" 2 f_law_draw := fnA_of X G d_law_draw (ps := ["hand", "many"]) (fun _ _ F => F.binds (ps := ["hand", "many"]) fun _ _ _ _ _ _ us hl => match us, hl with | [_, _], _ => rfl) fun f fd F => ok_law_draw T F
  have h_law_any : FnA l.prog w K mg base (gOf mg) 2 "_law_any" 2 f_law_any := fnA_of X G d_law_any (ps := ["hand", "items"]) (fun _ _ F => F.binds (ps := ["hand", "items"]) fun _ _ _ _ _ _ us hl => match us, hl with | [_, _], _ => rfl) fun f fd F => ok_law_any T h_law_draw F
  have h_law_begins : FnA l.prog w K mg base (gOf mg) 3 "_law_begins" 2 f_law_begins := fnA_of X G d_law_begins (ps := ["hand", "cells"]) (fun _ _ F => F.binds (ps := ["hand", "cells"]) fun _ _ _ _ _ _ us hl => match us, hl with | [_, _], _ => rfl) fun f fd F => ok_law_begins T h_law_any F
  have h_law_hand : FnA l.prog w K mg base (gOf mg) 1 "_law_hand" 1 f_law_hand := fnA_of X G d_law_hand (ps := ["script"]) (fun _ _ F => F.binds (ps := ["script"]) fun _ _ _ _ _ _ us hl => match us, hl with | [_], _ => rfl) fun f fd F => ok_law_hand T F
  have scc_law_is : ∀ n : Nat, FnA l.prog w K mg base (gOf mg) (0 + n) "_law_is" 2 (f_law_is n) := by
    intro n
    induction n with
    | zero => exact fnA_of X G d_law_is (ps := ["told", "due"]) (fun _ _ F => F.binds (ps := ["told", "due"]) fun _ _ _ _ _ _ us hl => match us, hl with | [_, _], _ => rfl) fun f fd F => fn_none
    | succ n ih =>
      have h_law_is := ih
      exact fnA_of X G d_law_is (ps := ["told", "due"]) (fun _ _ F => F.binds (ps := ["told", "due"]) fun _ _ _ _ _ _ us hl => match us, hl with | [_, _], _ => rfl) fun f fd F => ok_law_is T h_law_is F
  have h_law_is : FnA l.prog w K mg base (gOf mg) 20 "_law_is" 2 (f_law_is 20) := scc_law_is 20
  have scc_law_size : ∀ n : Nat, FnA l.prog w K mg base (gOf mg) (0 + n) "_law_size" 1 (f_law_size n) := by
    intro n
    induction n with
    | zero => exact fnA_of X G d_law_size (ps := ["body"]) (fun _ _ F => F.binds (ps := ["body"]) fun _ _ _ _ _ _ us hl => match us, hl with | [_], _ => rfl) fun f fd F => fn_none
    | succ n ih =>
      have h_law_size := ih
      exact fnA_of X G d_law_size (ps := ["body"]) (fun _ _ F => F.binds (ps := ["body"]) fun _ _ _ _ _ _ us hl => match us, hl with | [_], _ => rfl) fun f fd F => ok_law_size T h_law_size F
  have h_law_size : FnA l.prog w K mg base (gOf mg) 20 "_law_size" 1 (f_law_size 20) := scc_law_size 20
  have h_law_alone : FnA l.prog w K mg base (gOf mg) 1 "_law_alone" 3 f_law_alone := fnA_of X G d_law_alone (ps := ["cells", "cell", "number"]) (fun _ _ F => F.binds (ps := ["cells", "cell", "number"]) fun _ _ _ _ _ _ us hl => match us, hl with | [_, _, _], _ => rfl) fun f fd F => ok_law_alone T F
  have h_law_sum : FnA l.prog w K mg base (gOf mg) 3 "_law_sum" 2 f_law_sum := fnA_of X G d_law_sum (ps := ["hand", "cells"]) (fun _ _ F => F.binds (ps := ["hand", "cells"]) fun _ _ _ _ _ _ us hl => match us, hl with | [_, _], _ => rfl) fun f fd F => ok_law_sum T h_law_any h_law_draw F
  have h_law_test : FnA l.prog w K mg base (gOf mg) 4 "_law_test" 2 f_law_test := fnA_of X G d_law_test (ps := ["hand", "cells"]) (fun _ _ F => F.binds (ps := ["hand", "cells"]) fun _ _ _ _ _ _ us hl => match us, hl with | [_, _], _ => rfl) fun f fd F => ok_law_test T h_law_any h_law_sum F
  have scc_law_statement : ∀ n : Nat, FnA l.prog w K mg base (gOf mg) (20 + n) "_law_statement" 4 (f_law_statement n) ∧ FnA l.prog w K mg base (gOf mg) (20 + n) "_law_body" 4 (f_law_body n) := by
    intro n
    induction n with
    | zero => exact ⟨fnA_of X G d_law_statement (ps := ["hand", "cells", "routines", "deep"]) (fun _ _ F => F.binds (ps := ["hand", "cells", "routines", "deep"]) fun _ _ _ _ _ _ us hl => match us, hl with | [_, _, _, _], _ => rfl) fun f fd F => fn_none, fnA_of X G d_law_body (ps := ["hand", "cells", "routines", "deep"]) (fun _ _ F => F.binds (ps := ["hand", "cells", "routines", "deep"]) fun _ _ _ _ _ _ us hl => match us, hl with | [_, _, _, _], _ => rfl) fun f fd F => fn_none⟩
    | succ n ih =>
      obtain ⟨h_law_statement, h_law_body⟩ := ih
      exact ⟨fnA_of X G d_law_statement (ps := ["hand", "cells", "routines", "deep"]) (fun _ _ F => F.binds (ps := ["hand", "cells", "routines", "deep"]) fun _ _ _ _ _ _ us hl => match us, hl with | [_, _, _, _], _ => rfl) fun f fd F => ok_law_statement T h_law_alone h_law_any h_law_body h_law_draw h_law_sum h_law_test F, fnA_of X G d_law_body (ps := ["hand", "cells", "routines", "deep"]) (fun _ _ F => F.binds (ps := ["hand", "cells", "routines", "deep"]) fun _ _ _ _ _ _ us hl => match us, hl with | [_, _, _, _], _ => rfl) fun f fd F => ok_law_body T h_law_draw h_law_size h_law_statement F⟩
  have h_law_statement : FnA l.prog w K mg base (gOf mg) 40 "_law_statement" 4 (f_law_statement 20) := (scc_law_statement 20).1
  have h_law_body : FnA l.prog w K mg base (gOf mg) 40 "_law_body" 4 (f_law_body 20) := (scc_law_statement 20).2
  have h_law_parts : FnA l.prog w K mg base (gOf mg) 41 "_law_parts" 1 f_law_parts := fnA_of X G d_law_parts (ps := ["hand"]) (fun _ _ F => F.binds (ps := ["hand"]) fun _ _ _ _ _ _ us hl => match us, hl with | [_], _ => rfl) fun f fd F => ok_law_parts T h_law_body h_law_draw F
  have h_law_value : FnA l.prog w K mg base (gOf mg) 1 "_law_value" 2 f_law_value := fnA_of X G d_law_value (ps := ["total", "values"]) (fun _ _ F => F.binds (ps := ["total", "values"]) fun _ _ _ _ _ _ us hl => match us, hl with | [_, _], _ => rfl) fun f fd F => ok_law_value T F
  have h_law_test_holds : FnA l.prog w K mg base (gOf mg) 2 "_law_test_holds" 2 f_law_test_holds := fnA_of X G d_law_test_holds (ps := ["test", "values"]) (fun _ _ F => F.binds (ps := ["test", "values"]) fun _ _ _ _ _ _ us hl => match us, hl with | [_, _], _ => rfl) fun f fd F => ok_law_test_holds T h_law_value F
  have h_law_run : FnA l.prog w K mg base (gOf mg) 3 "_law_run" 3 f_law_run := fnA_of X G d_law_run (ps := ["parts", "begins", "most"]) (fun _ _ F => F.binds (ps := ["parts", "begins", "most"]) fun _ _ _ _ _ _ us hl => match us, hl with | [_, _, _], _ => rfl) fun f fd F => ok_law_run T h_law_test_holds h_law_value F
  have m_Runner_contents : MetA l.prog w K mg base (gOf mg) 1 "Runner" "contents" 1 f_Runner_contents := metA_of X G d_Runner_contents c_Runner (ps := ["self"]) (fun _ _ F => F.binds (ps := ["self"]) fun _ _ _ _ _ _ us hl => match us, hl with | [_], _ => rfl) fun f fd F => ok_Runner_contents T F
  have m_Runner_go_along : MetA l.prog w K mg base (gOf mg) 1 "Runner" "go_along" 2 f_Runner_go_along := metA_of X G d_Runner_go_along c_Runner (ps := ["self", "branch"]) (fun _ _ F => F.binds (ps := ["self", "branch"]) fun _ _ _ _ _ _ us hl => match us, hl with | [_, _], _ => rfl) fun f fd F => ok_Runner_go_along T F
  have m_Runner_close_routine : MetA l.prog w K mg base (gOf mg) 2 "Runner" "close_routine" 1 f_Runner_close_routine := metA_of X G d_Runner_close_routine c_Runner (ps := ["self"]) (fun _ _ F => F.binds (ps := ["self"]) fun _ _ _ _ _ _ us hl => match us, hl with | [_], _ => rfl) fun f fd F => ok_Runner_close_routine T m_Runner_go_along F
  have m_Runner_set_cell : MetA l.prog w K mg base (gOf mg) 1 "Runner" "set_cell" 3 f_Runner_set_cell := metA_of X G d_Runner_set_cell c_Runner (ps := ["self", "cell", "number"]) (fun _ _ F => F.binds (ps := ["self", "cell", "number"]) fun _ _ _ _ _ _ us hl => match us, hl with | [_, _, _], _ => rfl) fun f fd F => ok_Runner_set_cell T F
  have m_Runner_task : MetA l.prog w K mg base (gOf mg) 1 "Runner" "task" 1 f_Runner_task := metA_of X G d_Runner_task c_Runner (ps := ["self"]) (fun _ _ F => F.binds (ps := ["self"]) fun _ _ _ _ _ _ us hl => match us, hl with | [_], _ => rfl) fun f fd F => ok_Runner_task T F
  have m_Runner_total_of : MetA l.prog w K mg base (gOf mg) 1 "Runner" "total_of" 2 f_Runner_total_of := metA_of X G d_Runner_total_of c_Runner (ps := ["self", "numbers"]) (fun _ _ F => F.binds (ps := ["self", "numbers"]) fun _ _ _ _ _ _ us hl => match us, hl with | [_, _], _ => rfl) fun f fd F => ok_Runner_total_of T F
  have m_Runner_test_holds : MetA l.prog w K mg base (gOf mg) 2 "Runner" "test_holds" 2 f_Runner_test_holds := metA_of X G d_Runner_test_holds c_Runner (ps := ["self", "test"]) (fun _ _ F => F.binds (ps := ["self", "test"]) fun _ _ _ _ _ _ us hl => match us, hl with | [_, _], _ => rfl) fun f fd F => ok_Runner_test_holds T m_Runner_total_of F
  have h_word_of : FnA l.prog w K mg base (gOf mg) 1 "word_of" 1 f_word_of := fnA_of X G d_word_of (ps := ["task"]) (fun _ _ F => F.binds (ps := ["task"]) fun _ _ _ _ _ _ us hl => match us, hl with | [_], _ => rfl) fun f fd F => ok_word_of T F
  have m_Runner_word : MetA l.prog w K mg base (gOf mg) 2 "Runner" "word" 1 f_Runner_word := metA_of X G d_Runner_word c_Runner (ps := ["self"]) (fun _ _ F => F.binds (ps := ["self"]) fun _ _ _ _ _ _ us hl => match us, hl with | [_], _ => rfl) fun f fd F => ok_Runner_word T m_Runner_task h_word_of F
  have m_Runner_step : MetA l.prog w K mg base (gOf mg) 3 "Runner" "step" 1 f_Runner_step := metA_of X G d_Runner_step c_Runner (ps := ["self"]) (fun _ _ F => F.binds (ps := ["self"]) fun _ _ _ _ _ _ us hl => match us, hl with | [_], _ => rfl) fun f fd F => ok_Runner_step T m_Runner_close_routine m_Runner_go_along m_Runner_set_cell m_Runner_task m_Runner_test_holds m_Runner_total_of m_Runner_word h_word_of F
  have h_is_whole : FnA l.prog w K mg base (gOf mg) 1 "is_whole" 1 f_is_whole := fnA_of X G d_is_whole (ps := ["thing"]) (fun _ _ F => F.binds (ps := ["thing"]) fun _ _ _ _ _ _ us hl => match us, hl with | [_], _ => rfl) fun f fd F => ok_is_whole T F
  have h_is_between : FnA l.prog w K mg base (gOf mg) 2 "is_between" 3 f_is_between := fnA_of X G d_is_between (ps := ["thing", "low", "high"]) (fun _ _ F => F.binds (ps := ["thing", "low", "high"]) fun _ _ _ _ _ _ us hl => match us, hl with | [_, _, _], _ => rfl) fun f fd F => ok_is_between T h_is_whole F
  have m_Runner_go : MetA l.prog w K mg base (gOf mg) 4 "Runner" "go" 2 f_Runner_go := metA_of X G d_Runner_go c_Runner (ps := ["self", "most"]) (fun _ _ F => F.binds (ps := ["self", "most"]) fun _ _ _ _ _ _ us hl => match us, hl with | [_, _], _ => rfl) fun f fd F => ok_Runner_go T m_Runner_step m_Runner_word h_is_between F
  have m_Runner_said : MetA l.prog w K mg base (gOf mg) 1 "Runner" "said" 1 f_Runner_said := metA_of X G d_Runner_said c_Runner (ps := ["self"]) (fun _ _ F => F.binds (ps := ["self"]) fun _ _ _ _ _ _ us hl => match us, hl with | [_], _ => rfl) fun f fd F => ok_Runner_said T F
  have h_are_whole : FnA l.prog w K mg base (gOf mg) 2 "are_whole" 1 f_are_whole := fnA_of X G d_are_whole (ps := ["things"]) (fun _ _ F => F.binds (ps := ["things"]) fun _ _ _ _ _ _ us hl => match us, hl with | [_], _ => rfl) fun f fd F => ok_are_whole T h_is_whole F
  have h_is_row : FnA l.prog w K mg base (gOf mg) 1 "is_row" 2 f_is_row := fnA_of X G d_is_row (ps := ["thing", "many"]) (fun _ _ F => F.binds (ps := ["thing", "many"]) fun _ _ _ _ _ _ us hl => match us, hl with | [_, _], _ => rfl) fun f fd F => ok_is_row T F
  have m_Plan_add_place : MetA l.prog w K mg base (gOf mg) 1 "Plan" "add_place" 3 f_Plan_add_place := metA_of X G d_Plan_add_place c_Plan (ps := ["self", "task", "starts"]) (fun _ _ F => F.binds (ps := ["self", "task", "starts"]) fun _ _ _ _ _ _ us hl => match us, hl with | [_, _, _], _ => rfl) fun f fd F => ok_Plan_add_place T F
  have scc_Plan_lay : ∀ n : Nat, MetA l.prog w K mg base (gOf mg) (1 + n) "Plan" "lay" 3 (f_Plan_lay n) ∧ MetA l.prog w K mg base (gOf mg) (1 + n) "Plan" "lay_if" 3 (f_Plan_lay_if n) ∧ MetA l.prog w K mg base (gOf mg) (1 + n) "Plan" "lay_while" 3 (f_Plan_lay_while n) := by
    intro n
    induction n with
    | zero => exact ⟨metA_of X G d_Plan_lay c_Plan (ps := ["self", "body", "start"]) (fun _ _ F => F.binds (ps := ["self", "body", "start"]) fun _ _ _ _ _ _ us hl => match us, hl with | [_, _, _], _ => rfl) fun f fd F => fn_none, metA_of X G d_Plan_lay_if c_Plan (ps := ["self", "statement", "start"]) (fun _ _ F => F.binds (ps := ["self", "statement", "start"]) fun _ _ _ _ _ _ us hl => match us, hl with | [_, _, _], _ => rfl) fun f fd F => fn_none, metA_of X G d_Plan_lay_while c_Plan (ps := ["self", "statement", "start"]) (fun _ _ F => F.binds (ps := ["self", "statement", "start"]) fun _ _ _ _ _ _ us hl => match us, hl with | [_, _, _], _ => rfl) fun f fd F => fn_none⟩
    | succ n ih =>
      obtain ⟨m_Plan_lay, m_Plan_lay_if, m_Plan_lay_while⟩ := ih
      exact ⟨metA_of X G d_Plan_lay c_Plan (ps := ["self", "body", "start"]) (fun _ _ F => F.binds (ps := ["self", "body", "start"]) fun _ _ _ _ _ _ us hl => match us, hl with | [_, _, _], _ => rfl) fun f fd F => ok_Plan_lay T m_Plan_add_place m_Plan_lay_if m_Plan_lay_while F, metA_of X G d_Plan_lay_if c_Plan (ps := ["self", "statement", "start"]) (fun _ _ F => F.binds (ps := ["self", "statement", "start"]) fun _ _ _ _ _ _ us hl => match us, hl with | [_, _, _], _ => rfl) fun f fd F => ok_Plan_lay_if T m_Plan_add_place m_Plan_lay F, metA_of X G d_Plan_lay_while c_Plan (ps := ["self", "statement", "start"]) (fun _ _ F => F.binds (ps := ["self", "statement", "start"]) fun _ _ _ _ _ _ us hl => match us, hl with | [_, _, _], _ => rfl) fun f fd F => ok_Plan_lay_while T m_Plan_add_place m_Plan_lay F⟩
  have m_Plan_lay : MetA l.prog w K mg base (gOf mg) 21 "Plan" "lay" 3 (f_Plan_lay 20) := (scc_Plan_lay 20).1
  have m_Plan_lay_if : MetA l.prog w K mg base (gOf mg) 21 "Plan" "lay_if" 3 (f_Plan_lay_if 20) := (scc_Plan_lay 20).2.1
  have m_Plan_lay_while : MetA l.prog w K mg base (gOf mg) 21 "Plan" "lay_while" 3 (f_Plan_lay_while 20) := (scc_Plan_lay 20).2.2
  have mk_Plan : MkA l.prog w K mg base (gOf mg) 22 "Plan" 2 f_Plan_init := mkA_of X G c_Plan (fun _ _ F => F.binds (ps := ["self", "body"]) fun _ _ _ _ _ _ us hl => match us, hl with | [_, _], _ => rfl) fun f fd F => ok_Plan_init T m_Plan_add_place m_Plan_lay F
  have mk_Runner : MkA l.prog w K mg base (gOf mg) 24 "Runner" 3 f_Runner_init := mkA_of X G c_Runner (fun _ _ F => F.binds (ps := ["self", "book", "begins"]) fun _ _ _ _ _ _ us hl => match us, hl with | [_, _, _], _ => rfl) fun f fd F => ok_Runner_init T h_are_whole h_is_row mk_Plan F
  have h_ran : FnA l.prog w K mg base (gOf mg) 26 "ran" 3 f_ran := fnA_of X G d_ran (ps := ["book", "begins", "most"]) (fun _ _ F => F.binds (ps := ["book", "begins", "most"]) fun _ _ _ _ _ _ us hl => match us, hl with | [_, _, _], _ => rfl) fun f fd F => ok_ran T m_Runner_contents m_Runner_go m_Runner_said m_Runner_word mk_Runner F
  have h_is_sum : FnA l.prog w K mg base (gOf mg) 3 "is_sum" 2 f_is_sum := fnA_of X G d_is_sum (ps := ["thing", "cells"]) (fun _ _ F => F.binds (ps := ["thing", "cells"]) fun _ _ _ _ _ _ us hl => match us, hl with | [_, _], _ => rfl) fun f fd F => ok_is_sum T h_is_between h_is_row F
  have h_is_test : FnA l.prog w K mg base (gOf mg) 4 "is_test" 2 f_is_test := fnA_of X G d_is_test (ps := ["thing", "cells"]) (fun _ _ F => F.binds (ps := ["thing", "cells"]) fun _ _ _ _ _ _ us hl => match us, hl with | [_, _], _ => rfl) fun f fd F => ok_is_test T h_is_row h_is_sum F
  have scc_is_body : ∀ n : Nat, FnA l.prog w K mg base (gOf mg) (4 + n) "is_body" 4 (f_is_body n) ∧ FnA l.prog w K mg base (gOf mg) (4 + n) "is_statement" 4 (f_is_statement n) := by
    intro n
    induction n with
    | zero => exact ⟨fnA_of X G d_is_body (ps := ["thing", "deep", "cells", "routines"]) (fun _ _ F => F.binds (ps := ["thing", "deep", "cells", "routines"]) fun _ _ _ _ _ _ us hl => match us, hl with | [_, _, _, _], _ => rfl) fun f fd F => fn_none, fnA_of X G d_is_statement (ps := ["thing", "deep", "cells", "routines"]) (fun _ _ F => F.binds (ps := ["thing", "deep", "cells", "routines"]) fun _ _ _ _ _ _ us hl => match us, hl with | [_, _, _, _], _ => rfl) fun f fd F => fn_none⟩
    | succ n ih =>
      obtain ⟨h_is_body, h_is_statement⟩ := ih
      exact ⟨fnA_of X G d_is_body (ps := ["thing", "deep", "cells", "routines"]) (fun _ _ F => F.binds (ps := ["thing", "deep", "cells", "routines"]) fun _ _ _ _ _ _ us hl => match us, hl with | [_, _, _, _], _ => rfl) fun f fd F => ok_is_body T h_is_statement F, fnA_of X G d_is_statement (ps := ["thing", "deep", "cells", "routines"]) (fun _ _ F => F.binds (ps := ["thing", "deep", "cells", "routines"]) fun _ _ _ _ _ _ us hl => match us, hl with | [_, _, _, _], _ => rfl) fun f fd F => ok_is_statement T h_is_between h_is_body h_is_sum h_is_test F⟩
  have h_is_body : FnA l.prog w K mg base (gOf mg) 24 "is_body" 4 (f_is_body 20) := (scc_is_body 20).1
  have h_is_statement : FnA l.prog w K mg base (gOf mg) 24 "is_statement" 4 (f_is_statement 20) := (scc_is_body 20).2
  have scc_places_in : ∀ n : Nat, FnA l.prog w K mg base (gOf mg) (0 + n) "places_in" 1 (f_places_in n) := by
    intro n
    induction n with
    | zero => exact fnA_of X G d_places_in (ps := ["body"]) (fun _ _ F => F.binds (ps := ["body"]) fun _ _ _ _ _ _ us hl => match us, hl with | [_], _ => rfl) fun f fd F => fn_none
    | succ n ih =>
      have h_places_in := ih
      exact fnA_of X G d_places_in (ps := ["body"]) (fun _ _ F => F.binds (ps := ["body"]) fun _ _ _ _ _ _ us hl => match us, hl with | [_], _ => rfl) fun f fd F => ok_places_in T h_places_in F
  have h_places_in : FnA l.prog w K mg base (gOf mg) 20 "places_in" 1 (f_places_in 20) := scc_places_in 20
  have h_wrong_part : FnA l.prog w K mg base (gOf mg) 25 "wrong_part" 2 f_wrong_part := fnA_of X G d_wrong_part (ps := ["cells", "routines"]) (fun _ _ F => F.binds (ps := ["cells", "routines"]) fun _ _ _ _ _ _ us hl => match us, hl with | [_, _], _ => rfl) fun f fd F => ok_wrong_part T h_is_between h_is_body h_places_in F
  have mk_Book : MkA l.prog w K mg base (gOf mg) 26 "Book" 3 f_Book_init := mkA_of X G c_Book (fun _ _ F => F.binds (ps := ["self", "cells", "routines"]) fun _ _ _ _ _ _ us hl => match us, hl with | [_, _, _], _ => rfl) fun f fd F => ok_Book_init T h_wrong_part F
  exact ok_law T h_law_any h_law_begins h_law_draw h_law_hand h_law_is h_law_parts h_law_run h_ran mk_Book FL
end Cl
set_option Elab.async false
set_option linter.all false
set_option maxRecDepth 100000
/-! # the hand: what is drawn -/
namespace Cl
open PySem PySem.Spec PyProof.Rows L2 Ab
def HandOK (h : Nat) (m : Mem) : Prop := ∃ (c : Nat) (cells : List Int) (i big seed cnt : Int), m[h]? = some (.lst [.ref c, .int i, .int big, .int seed, .int cnt]) ∧ c ≠ h ∧ m[c]? = some (.lst (cells.map D.int)) ∧ 0 ≤ i
theorem h_ix0 {h : Nat} {m : Mem} {a b c d e : D} (hm : m[h]? = some (.lst [a, b, c, d, e])) : dIx (.ref h) (.int 0) m = .ok a m := v_ixL hm rfl
theorem h_iy0 {h : Nat} {m : Mem} {z : Cell} {a b c d e : D} (hm : m[h]? = some z) : dIx (.ref h) (.int 0) (m.set h (.lst [a, b, c, d, e])) = .ok a (m.set h (.lst [a, b, c, d, e])) := v_ixL (get_set hm) rfl
theorem h_sx0 {h : Nat} {m : Mem} {a b c d e x : D} (hm : m[h]? = some (.lst [a, b, c, d, e])) : dSet (.ref h) (.int 0) x m = .ok () (m.set h (.lst [x, b, c, d, e])) := by rw [v_setL hm rfl]; rfl
theorem h_sy0 {h : Nat} {m : Mem} {z : Cell} {a b c d e x : D} (hm : m[h]? = some z) : dSet (.ref h) (.int 0) x (m.set h (.lst [a, b, c, d, e])) = .ok () (m.set h (.lst [x, b, c, d, e])) := by rw [v_setL (get_set hm) rfl, List.set_set]; rfl
theorem h_ix1 {h : Nat} {m : Mem} {a b c d e : D} (hm : m[h]? = some (.lst [a, b, c, d, e])) : dIx (.ref h) (.int 1) m = .ok b m := v_ixL hm rfl
theorem h_iy1 {h : Nat} {m : Mem} {z : Cell} {a b c d e : D} (hm : m[h]? = some z) : dIx (.ref h) (.int 1) (m.set h (.lst [a, b, c, d, e])) = .ok b (m.set h (.lst [a, b, c, d, e])) := v_ixL (get_set hm) rfl
theorem h_sx1 {h : Nat} {m : Mem} {a b c d e x : D} (hm : m[h]? = some (.lst [a, b, c, d, e])) : dSet (.ref h) (.int 1) x m = .ok () (m.set h (.lst [a, x, c, d, e])) := by rw [v_setL hm rfl]; rfl
theorem h_sy1 {h : Nat} {m : Mem} {z : Cell} {a b c d e x : D} (hm : m[h]? = some z) : dSet (.ref h) (.int 1) x (m.set h (.lst [a, b, c, d, e])) = .ok () (m.set h (.lst [a, x, c, d, e])) := by rw [v_setL (get_set hm) rfl, List.set_set]; rfl
theorem h_ix2 {h : Nat} {m : Mem} {a b c d e : D} (hm : m[h]? = some (.lst [a, b, c, d, e])) : dIx (.ref h) (.int 2) m = .ok c m := v_ixL hm rfl
theorem h_iy2 {h : Nat} {m : Mem} {z : Cell} {a b c d e : D} (hm : m[h]? = some z) : dIx (.ref h) (.int 2) (m.set h (.lst [a, b, c, d, e])) = .ok c (m.set h (.lst [a, b, c, d, e])) := v_ixL (get_set hm) rfl
theorem h_sx2 {h : Nat} {m : Mem} {a b c d e x : D} (hm : m[h]? = some (.lst [a, b, c, d, e])) : dSet (.ref h) (.int 2) x m = .ok () (m.set h (.lst [a, b, x, d, e])) := by rw [v_setL hm rfl]; rfl
theorem h_sy2 {h : Nat} {m : Mem} {z : Cell} {a b c d e x : D} (hm : m[h]? = some z) : dSet (.ref h) (.int 2) x (m.set h (.lst [a, b, c, d, e])) = .ok () (m.set h (.lst [a, b, x, d, e])) := by rw [v_setL (get_set hm) rfl, List.set_set]; rfl
theorem h_ix3 {h : Nat} {m : Mem} {a b c d e : D} (hm : m[h]? = some (.lst [a, b, c, d, e])) : dIx (.ref h) (.int 3) m = .ok d m := v_ixL hm rfl
theorem h_iy3 {h : Nat} {m : Mem} {z : Cell} {a b c d e : D} (hm : m[h]? = some z) : dIx (.ref h) (.int 3) (m.set h (.lst [a, b, c, d, e])) = .ok d (m.set h (.lst [a, b, c, d, e])) := v_ixL (get_set hm) rfl
theorem h_sx3 {h : Nat} {m : Mem} {a b c d e x : D} (hm : m[h]? = some (.lst [a, b, c, d, e])) : dSet (.ref h) (.int 3) x m = .ok () (m.set h (.lst [a, b, c, x, e])) := by rw [v_setL hm rfl]; rfl
theorem h_sy3 {h : Nat} {m : Mem} {z : Cell} {a b c d e x : D} (hm : m[h]? = some z) : dSet (.ref h) (.int 3) x (m.set h (.lst [a, b, c, d, e])) = .ok () (m.set h (.lst [a, b, c, x, e])) := by rw [v_setL (get_set hm) rfl, List.set_set]; rfl
theorem h_ix4 {h : Nat} {m : Mem} {a b c d e : D} (hm : m[h]? = some (.lst [a, b, c, d, e])) : dIx (.ref h) (.int 4) m = .ok e m := v_ixL hm rfl
theorem h_iy4 {h : Nat} {m : Mem} {z : Cell} {a b c d e : D} (hm : m[h]? = some z) : dIx (.ref h) (.int 4) (m.set h (.lst [a, b, c, d, e])) = .ok e (m.set h (.lst [a, b, c, d, e])) := v_ixL (get_set hm) rfl
theorem h_sx4 {h : Nat} {m : Mem} {a b c d e x : D} (hm : m[h]? = some (.lst [a, b, c, d, e])) : dSet (.ref h) (.int 4) x m = .ok () (m.set h (.lst [a, b, c, d, x])) := by rw [v_setL hm rfl]; rfl
theorem h_sy4 {h : Nat} {m : Mem} {z : Cell} {a b c d e x : D} (hm : m[h]? = some z) : dSet (.ref h) (.int 4) x (m.set h (.lst [a, b, c, d, e])) = .ok () (m.set h (.lst [a, b, c, d, x])) := by rw [v_setL (get_set hm) rfl, List.set_set]; rfl
def HandC (h c : Nat) (m : Mem) : Prop := ∃ (cells : List Int) (i big seed cnt : Int), m[h]? = some (.lst [.ref c, .int i, .int big, .int seed, .int cnt]) ∧ c ≠ h ∧ m[c]? = some (.lst (cells.map D.int)) ∧ 0 ≤ i
theorem HandC.ok {h c : Nat} {m : Mem} (H : HandC h c m) : HandOK h m := by
  obtain ⟨cells, i, big, seed, cnt, h1, h2, h3, h4⟩ := H
  exact ⟨c, cells, i, big, seed, cnt, h1, h2, h3, h4⟩
theorem HandOK.ex {h : Nat} {m : Mem} (H : HandOK h m) : ∃ c, HandC h c m := by
  obtain ⟨c, cells, i, big, seed, cnt, h1, h2, h3, h4⟩ := H
  exact ⟨c, cells, i, big, seed, cnt, h1, h2, h3, h4⟩
theorem w_drawC {h c : Nat} {m : Mem} {many : Int} (H : HandC h c m) (h0 : 0 < many) (h1 : many < 1073741824) : Ok (f_law_draw [.ref h, .int many] m) fun d m' => ∃ v : Nat, d = I v ∧ (v : Int) < many ∧ Fr h m m' ∧ HandC h c m' := by
  unfold f_law_draw afOf a_law_draw
  rw [v_seq]
  have hk : many ≠ 0 ∧ many.natAbs < 1073741824 := ⟨by omega, by omega⟩
  refine seq_f (nx_mono (K := fun e' m' => (∃ x, e' = [some (.ref h), some (.int many), x, none, none]) ∧ Fr h m m' ∧ HandC h c m') ?_ ?_)
  · obtain ⟨cells, i, big, seed, cnt, hm, hc, hcl, hi⟩ := H
    have hl : h < m.length := (List.getElem?_eq_some_iff.mp hm).1
    by_cases hb : big = 0
    · by_cases hlt : i < (cells.length : Int)
      · have hcell : ∃ z : Int, atI (cells.map D.int) i = some (.int z) := by
          refine ⟨cells[i.toNat]'(by omega), ?_⟩
          unfold atI ixN
          rw [if_pos hi, if_pos (by simpa using hlt)]
          simp
        obtain ⟨z, hz⟩ := hcell
        have hb2 := hb
        subst hb2
        simp [h_ix0 hm, h_ix1 hm, h_ix2 hm, h_iy3 hm, h_sx1 hm, h_sy3 hm, h_sy2 hm, v_ixL hcl hz, v_lenL hcl, hlt, w_eqI, dMul, dMod, dPow]
        have key : ∀ (b s : Int), Fr h m (m.set h (.lst [.ref c, .int (i + 1), .int b, .int s, .int cnt])) ∧ HandC h c (m.set h (.lst [.ref c, .int (i + 1), .int b, .int s, .int cnt])) := fun b s => ⟨Fr.set, cells, i + 1, b, s, cnt, get_set hm, hc, by rw [List.getElem?_set_ne (Ne.symm hc)]; exact hcl, by omega⟩
        split
        · simp [h_sy2 hm]
          exact key _ _
        · simp
          exact key _ _
      · have hb2 := hb
        subst hb2
        simp [h_ix0 hm, h_ix1 hm, h_ix2 hm, v_lenL hcl, hlt, w_eqI]
        exact ⟨Fr.refl, cells, i, 0, seed, cnt, hm, hc, hcl, hi⟩
    · simp [h_ix2 hm, hb, w_eqI]
      exact ⟨Fr.refl, cells, i, big, seed, cnt, hm, hc, hcl, hi⟩
  · intro e' m' h2
    obtain ⟨⟨x, rfl⟩, hF, cells, i, big, seed, cnt, hm, hc, hcl, hi⟩ := h2
    have hl : h < m'.length := (List.getElem?_eq_some_iff.mp hm).1
    have key : ∀ (b n : Int), Fr h m (m'.set h (.lst [.ref c, .int i, .int b, .int seed, .int n])) ∧ HandC h c (m'.set h (.lst [.ref c, .int i, .int b, .int seed, .int n])) := fun b n => ⟨hF.trans Fr.set, cells, i, b, seed, n, get_set hm, hc, by rw [List.getElem?_set_ne (Ne.symm hc)]; exact hcl, hi⟩
    have out : ∀ z : Int, ∃ v : Nat, D.int (z.fmod many) = I v ∧ (v : Int) < many := fun z => by
      have h2 : 0 ≤ z.fmod many := Int.fmod_nonneg_of_pos _ h0
      have h3 : z.fmod many < many := Int.fmod_lt_of_pos _ h0
      exact ⟨(z.fmod many).toNat, by unfold I; rw [Int.toNat_of_nonneg h2], by rw [Int.toNat_of_nonneg h2]; exact h3⟩
    by_cases hb : 0 < big
    · simp [h_ix2 hm, hb, h_sx2 hm, v_mod hk.1, v_fdiv hk]
      obtain ⟨v, h3, h4⟩ := out big
      exact ⟨v, h3, h4, key _ _⟩
    · have m1 : ∀ (w : Int) (m : Mem), dMul (.int 7919) (.int w) m = .ok (.int (7919 * w)) m := fun w m => v_mul (.inl (by decide))
      have m2 : ∀ (w : Int) (m : Mem), dMul (.int w) (.int 48271) m = .ok (.int (w * 48271)) m := fun w m => v_mul (.inr (by decide))
      have m3 : ∀ (z w : Int) (m : Mem), dMul (.int (Int.fmod z 2147483647)) (.int w) m = .ok (.int (Int.fmod z 2147483647 * w)) m := fun z w m => v_mul (.inl (by
        have h2 : 0 ≤ z.fmod 2147483647 := Int.fmod_nonneg_of_pos _ (by decide)
        have h3 : z.fmod 2147483647 < 2147483647 := Int.fmod_lt_of_pos _ (by decide)
        omega))
      have q1 : ∀ (w : Int) (m : Mem), dMod (.int w) (.int 2147483647) m = .ok (.int (w.fmod 2147483647)) m := fun w m => v_mod (by decide)
      have q2 : ∀ (w : Int) (m : Mem), dMod (.int w) (.int 2147483399) m = .ok (.int (w.fmod 2147483399)) m := fun w m => v_mod (by decide)
      have r1 : ∀ (w : Int) (m : Mem), dFdiv (.int w) (.int 1009) m = .ok (.int (w.fdiv 1009)) m := fun w m => v_fdiv ⟨by decide, by decide⟩
      have r2 : ∀ (w : Int) (m : Mem), dFdiv (.int w) (.int 2003) m = .ok (.int (w.fdiv 2003)) m := fun w m => v_fdiv ⟨by decide, by decide⟩
      have r3 : ∀ (w : Int) (m : Mem), dFdiv (.int w) (.int 16) m = .ok (.int (w.fdiv 16)) m := fun w m => v_fdiv ⟨by decide, by decide⟩
      simp [h_ix2 hm, h_ix4 hm, hb, h_sx4 hm, h_iy3 hm, h_iy4 hm, v_mod hk.1, m1, m2, m3, q1, q2, r1, r2, r3]
      obtain ⟨v, h3, h4⟩ := out (Int.fdiv (Int.fmod (Int.fmod (Int.fmod ((seed + 7919 * (cnt + 1)) * 48271) 2147483647 * (Int.fdiv (Int.fmod ((seed + 7919 * (cnt + 1)) * 48271) 2147483647) 1009 + 69621)) 2147483647 * (Int.fdiv (Int.fmod (Int.fmod ((seed + 7919 * (cnt + 1)) * 48271) 2147483647 * (Int.fdiv (Int.fmod ((seed + 7919 * (cnt + 1)) * 48271) 2147483647) 1009 + 69621)) 2147483647) 2003 + 40692)) 2147483399) 16)
      exact ⟨v, h3, h4, key _ _⟩
end Cl
set_option Elab.async false
set_option linter.all false
set_option maxRecDepth 100000
/-! # Plan: what its methods do -/
namespace Cl
open PySem PySem.Spec PyProof.Rows L2 Ab Bk
theorem e_meth {c mn : Str} {F : AF} {o : AE} {aa : AA} {e : Env'} {m m1 m2 : Mem} {n : Nat} {fs : List (Str × D)} {ds : List D} {r : R D} (h1 : o e m = .ok (.ref n) m1) (h2 : m1[n]? = some (.ins c fs)) (h3 : lookF mn fs = none) (h4 : aa e m1 = .ok ds m2) (h5 : F (.ref n :: ds) m2 = r) : eMeth c mn F o aa e m = r := by
  unfold eMeth
  rw [h1, v_bind]
  dsimp only
  rw [h2]
  dsimp only
  rw [if_pos ⟨rfl, h3⟩, h4, v_bind, h5]
theorem e_tup {aa : AA} {e : Env'} {m m1 : Mem} {ds : List D} (h : aa e m = .ok ds m1) (hl : ds.length ≤ sizeLine := by exact Nat.le_of_ble_eq_true rfl) : eCall mkTup aa e m = .ok (.tup ds) m1 := e_call h (v_tup hl)
theorem e_lst {aa : AA} {e : Env'} {m m1 : Mem} {ds : List D} (h : aa e m = .ok ds m1) (hl : ds.length ≤ sizeLine := by exact Nat.le_of_ble_eq_true rfl) : eCall mkLst aa e m = .ok (.ref m1.length) (m1 ++ [.lst ds]) := e_call h (v_lst hl)
/-- below n all is as it was -/
def Bl (n : Nat) (m m' : Mem) : Prop := ∀ (i : Nat) (c : Cell), i < n → m[i]? = some c → m'[i]? = some c
theorem Bl.refl {n : Nat} {m : Mem} : Bl n m m := fun _ _ _ e => e
theorem Bl.trans {n : Nat} {m m1 m2 : Mem} (a : Bl n m m1) (b : Bl n m1 m2) : Bl n m m2 := fun i c h e => b i c h (a i c h e)
theorem Bl.pre {n : Nat} {m m' : Mem} (a : Pre m m') : Bl n m m' := fun i c _ e => a i c e
theorem Bl.set {n k : Nat} {m : Mem} {c : Cell} (h : n ≤ k) : Bl n m (m.set k c) := fun i _ hi e => by rw [List.getElem?_set_ne (by omega)]; exact e
structure PlanM (m : Mem) (n t c : Nat) (rs : List Nat) (T : Pn) : Prop where
  ins : m[n]? = some (.ins "Plan" [("tasks", .ref t), ("coming", .ref c)])
  tk : m[t]? = some (.lst (T.tasks.map tkD))
  cm : m[c]? = some (.lst (rs.map D.ref))
  len : rs.length = T.coming.length
  ls : ∀ (i r : Nat) (l : List Start), rs[i]? = some r → T.coming[i]? = some l → m[r]? = some (.lst (l.map srD))
  nd : (n :: t :: c :: rs).Nodup
  lo : ∀ x ∈ t :: c :: rs, n < x
theorem PlanM.pre {m m' : Mem} {n t c : Nat} {rs : List Nat} {T : Pn} (P : PlanM m n t c rs T) (p : Pre m m') : PlanM m' n t c rs T :=
  ⟨p _ _ P.ins, p _ _ P.tk, p _ _ P.cm, P.len, fun i r l h1 h2 => p _ _ (P.ls i r l h1 h2), P.nd, P.lo⟩
theorem PlanM.lt {m : Mem} {n t c : Nat} {rs : List Nat} {T : Pn} (P : PlanM m n t c rs T) : ∀ x ∈ n :: t :: c :: rs, x < m.length := by
  intro x hx
  have g : ∀ {i : Nat} {c : Cell}, m[i]? = some c → i < m.length := fun h => (List.getElem?_eq_some_iff.mp h).1
  simp only [List.mem_cons] at hx
  rcases hx with rfl | rfl | rfl | hx
  · exact g P.ins
  · exact g P.tk
  · exact g P.cm
  · obtain ⟨i, hi, e⟩ := List.mem_iff_getElem.mp hx
    have h2 : i < T.coming.length := by rw [← P.len]; exact hi
    exact g (P.ls i x _ (by rw [List.getElem?_eq_getElem hi, e]) (List.getElem?_eq_getElem h2))
theorem w_add_place {m : Mem} {n t c : Nat} {rs : List Nat} {T : Pn} (P : PlanM m n t c rs T) (hl : T.tasks.length ≤ 1000) (hl2 : T.coming.length ≤ 1000) {s : Nat} {S : List Start} (hs : m[s]? = some (.lst (S.map srD))) (hns : s ∉ n :: t :: c :: rs) (hlo : n < s) (tk : Tk) :
    ∃ m', f_Plan_add_place [.ref n, tkD tk, .ref s] m = .ok (I T.tasks.length) m' ∧ PlanM m' n t c (rs ++ [s]) (T.add tk S) ∧ Bl n m m' ∧ m.length ≤ m'.length := by
  have nd := P.nd
  simp only [List.nodup_cons, List.mem_cons, not_or] at nd
  obtain ⟨⟨nt, nc, nr⟩, ⟨tc, tr⟩, cr, rn⟩ := nd
  simp only [List.mem_cons, not_or] at hns
  obtain ⟨sn, st, sc, sr⟩ := hns
  have hlt : n < t := P.lo t (by simp)
  have hlc : n < c := P.lo c (by simp)
  have e1 : m[t]? = some (.lst (T.tasks.map tkD)) := P.tk
  -- tasks.append
  generalize hm1 : m.set t (.lst (T.tasks.map tkD ++ [tkD tk])) = m1
  have i1 : m1[n]? = some (.ins "Plan" [("tasks", .ref t), ("coming", .ref c)]) := by rw [← hm1, List.getElem?_set_ne (Ne.symm nt)]; exact P.ins
  have c1 : m1[c]? = some (.lst (rs.map D.ref)) := by rw [← hm1, List.getElem?_set_ne tc]; exact P.cm
  generalize hm2 : m1.set c (.lst (rs.map D.ref ++ [.ref s])) = m2
  have i2 : m2[n]? = some (.ins "Plan" [("tasks", .ref t), ("coming", .ref c)]) := by rw [← hm2, List.getElem?_set_ne (Ne.symm nc)]; exact i1
  have t1 : m1[t]? = some (.lst (T.tasks.map tkD ++ [tkD tk])) := by rw [← hm1]; exact get_set e1
  have t2 : m2[t]? = some (.lst (T.tasks.map tkD ++ [tkD tk])) := by rw [← hm2, List.getElem?_set_ne (Ne.symm tc)]; exact t1
  refine ⟨m2, ?_, ?_, ?_, by rw [← hm2, ← hm1]; simp⟩
  · have s1 : sExp (eMt isL mAppend (eFld "Plan" "tasks" (eVar 0)) (aCons (eVar 1) aNil)) [some (.ref n), some (tkD tk), some (.ref s)] m = .nx [some (.ref n), some (tkD tk), some (.ref s)] m1 :=
      s_exp (e_mt (v_fld rfl P.ins rfl) (w_isL e1) (a_c rfl rfl) (by rw [v_append e1 (by simp; omega), hm1]))
    have s2 : sExp (eMt isL mAppend (eFld "Plan" "coming" (eVar 0)) (aCons (eVar 2) aNil)) [some (.ref n), some (tkD tk), some (.ref s)] m1 = .nx [some (.ref n), some (tkD tk), some (.ref s)] m2 :=
      s_exp (e_mt (v_fld rfl i1 rfl) (w_isL c1) (a_c rfl rfl) (by rw [v_append c1 (by rw [List.length_map, P.len]; omega), hm2]))
    have s3 : sRet (eOp dSub (eCall bLen (aCons (eFld "Plan" "tasks" (eVar 0)) aNil)) (eC (.int 1))) [some (.ref n), some (tkD tk), some (.ref s)] m2 = .rt (I T.tasks.length) m2 :=
      s_ret (e_op (e_call (a_c (v_fld rfl i2 rfl) rfl) (v_lenL t2)) rfl (by rw [v_sub]; congr 2; simp))
    exact af_rt rfl (s_seq s1 (s_seq s2 s3))
  · refine ⟨i2, by rw [t2]; simp [Pn.add], by rw [← hm2, get_set c1]; simp, by simp [Pn.add, P.len], fun i r l h1 h2 => ?_, ?_, ?_⟩
    · have g : ∀ r, r ≠ t → r ≠ c → m2[r]? = m[r]? := fun r h h' => by rw [← hm2, List.getElem?_set_ne (Ne.symm h'), ← hm1, List.getElem?_set_ne (Ne.symm h)]
      rcases app_get h1 with h1 | ⟨rfl, rfl⟩
      · have hi : i < rs.length := (List.getElem?_eq_some_iff.mp h1).1
        have hr : r ∈ rs := List.mem_of_getElem? h1
        rw [g r (fun z => tr (z ▸ hr)) (fun z => cr (z ▸ hr))]
        refine P.ls i r l h1 ?_
        rcases app_get h2 with h2 | ⟨e, _⟩
        · exact h2
        · exfalso; rw [P.len] at hi; omega
      · rw [g r st sc]
        rcases app_get h2 with h2 | ⟨_, e⟩
        · have := (List.getElem?_eq_some_iff.mp h2).1
          exfalso; rw [P.len] at this; omega
        · rw [e]; exact hs
    · have : (n :: t :: c :: (rs ++ [s])) = (n :: t :: c :: rs) ++ [s] := by simp
      rw [this, List.nodup_append]
      refine ⟨P.nd, by simp, fun a ha b hb => ?_⟩
      rw [List.mem_singleton] at hb
      subst hb
      intro z
      subst z
      simp only [List.mem_cons] at ha
      rcases ha with h | h | h | h
      · exact sn h
      · exact st h
      · exact sc h
      · exact sr h
    · intro x hx
      have : x ∈ (t :: c :: rs) ++ [s] := by simpa using hx
      rcases List.mem_append.mp this with h | h
      · exact P.lo x h
      · rw [List.mem_singleton] at h; subst h; exact hlo
  · exact fun i cc hi e => by rw [← hm2, List.getElem?_set_ne (by omega), ← hm1, List.getElem?_set_ne (by omega)]; exact e
end Cl
set_option Elab.async false
set_option linter.all false
set_option maxRecDepth 100000
namespace Cl
open PySem PySem.Spec PyProof.Rows L2 Ab Bk
def wdS : Stm → Str
  | .set _ _ => "set"
  | .say _ => "say"
  | .call _ => "call"
  | .ifs _ _ _ _ _ => "if"
  | .whl _ _ _ _ => "while"
theorem ok_set : PyData.strOk ("set" : Str) = true := by decide +kernel
theorem ok_say : PyData.strOk ("say" : Str) = true := by decide +kernel
theorem ok_call : PyData.strOk ("call" : Str) = true := by decide +kernel
theorem ok_if : PyData.strOk ("if" : Str) = true := by decide +kernel
theorem ok_while : PyData.strOk ("while" : Str) = true := by decide +kernel
theorem ok_wdS (s : Stm) : PyData.strOk (wdS s) = true := by
  cases s
  · exact ok_set
  · exact ok_say
  · exact ok_call
  · exact ok_if
  · exact ok_while
theorem at0_stD (s : Stm) : ∃ ds, stD s = .tup ds ∧ atI ds 0 = some (.str (wdS s)) := by cases s <;> exact ⟨_, rfl, rfl⟩
/-- a statement's word, compared -/
theorem w_wd {i : Nat} {e : Env'} {m : Mem} {s : Stm} {z : Str} (h : e[i]? = some (some (stD s))) (hz : PyData.strOk z = true) : tVal (eOp dEq (eOp dIx (eVar i) (eC (.int 0))) (eC (.str z))) e m = .ok (decide (wdS s = z)) m := by
  obtain ⟨ds, e1, e2⟩ := at0_stD s
  refine t_v (e_op (e_op (v_var h) rfl (by rw [e1]; exact v_ixT e2)) rfl (v_eqS (ok_wdS s) hz))
noncomputable def wLay (k : Nat) : AS :=
  sIf (tVal (eOp dEq (eOp dIx (eVar 3) (eC (.int 0))) (eC (.str "if"))))
    (sAsg (eMeth "Plan" "lay_if" (f_Plan_lay_if k) (eVar 0) (aCons (eVar 3) (aCons (eVar 2) (aNil)))) (gN 2))
    (sIf (tVal (eOp dEq (eOp dIx (eVar 3) (eC (.int 0))) (eC (.str "while"))))
    (sAsg (eMeth "Plan" "lay_while" (f_Plan_lay_while k) (eVar 0) (aCons (eVar 3) (aCons (eVar 2) (aNil)))) (gN 2))
    (sAsg (eCall mkTup (aCons (eMeth "Plan" "add_place" f_Plan_add_place (eVar 0) (aCons (eVar 3) (aCons (eCall mkLst (aCons (eVar 2) (aNil))) (aNil)))) (aCons (eC (.int 0)) (aNil)))) (gN 2)))
/-- a method of the plan: its args, then what it does -/
theorem new_ne {n t c : Nat} {rs : List Nat} {T : Pn} {m : Mem} (P : PlanM m n t c rs T) : m.length ∉ n :: t :: c :: rs ∧ n < m.length := ⟨fun h => Nat.lt_irrefl _ (P.lt _ h), P.lt n (by simp)⟩
/-- self.add_place(e, [s ..]) -/
theorem w_addp {a : AE} {aa : AA} {e : Env'} {m : Mem} {n t c : Nat} {rs : List Nat} {T : Pn} {tk : Tk} {S : List Start} (P : PlanM m n t c rs T) (hl : T.tasks.length ≤ 1000) (hcl : T.coming.length = T.tasks.length) (h0 : e[0]? = some (some (.ref n))) (ha : a e m = .ok (tkD tk) m) (hS : aa e m = .ok (S.map srD) m) (hlen : S.length ≤ 5) :
    ∃ m', eMeth "Plan" "add_place" f_Plan_add_place (eVar 0) (aCons a (aCons (eCall mkLst aa) aNil)) e m = .ok (I T.tasks.length) m' ∧ PlanM m' n t c (rs ++ [m.length]) (T.add tk S) ∧ Bl n m m' ∧ m.length ≤ m'.length := by
  obtain ⟨q1, q2⟩ := new_ne P
  obtain ⟨m', w1, w2, w3, w4⟩ := w_add_place (P.pre (Pre.add (x := [.lst (S.map srD)]))) hl (by omega) (s := m.length) (S := S) new_get q1 q2 tk
  refine ⟨m', e_meth (v_var h0) P.ins rfl (a_c ha (a_c (e_lst hS (by rw [List.length_map]; exact Nat.le_trans hlen (by decide))) rfl)) w1, w2, (Bl.pre .add).trans w3, ?_⟩
  rw [List.length_append, List.length_singleton] at w4
  omega
theorem lay_of {n t c : Nat} {b : List Stm} {k : Nat} {T : Pn} {m : Mem} {s0 : Start}
    (h : ∃ m' rs' x3', forL (gN 3) (wLay k) [] (bdD b) [some (.ref n), some (.tup (bdD b)), some (srD s0), none] m = .nx [some (.ref n), some (.tup (bdD b)), some (srD (layB T s0 b).2), x3'] m' ∧ PlanM m' n t c rs' (layB T s0 b).1 ∧ Bl n m m' ∧ m.length ≤ m'.length) :
    ∃ m' rs', f_Plan_lay (k + 1) [.ref n, .tup (bdD b), srD s0] m = .ok (srD (layB T s0 b).2) m' ∧ PlanM m' n t c rs' (layB T s0 b).1 ∧ Bl n m m' ∧ m.length ≤ m'.length := by
  obtain ⟨m', rs', x3', v1, P1, b1, l1⟩ := h
  refine ⟨m', rs', ?_, P1, b1, l1⟩
  rw [f_Plan_lay_succ]
  exact af_rt rfl (s_seq (show sFor (iE (eVar 1)) (gN 3) (wLay k) _ m = _ from by rw [w_for, w_iE]; exact v1) (s_ret rfl))
mutual
theorem w_layS {n t c : Nat} {bd : D} : ∀ (s : Stm) {k : Nat} {T : Pn} {rs : List Nat} {m : Mem} {s0 : Start}, 2 * dpS s ≤ k → PlanM m n t c rs T → T.coming.length = T.tasks.length → T.tasks.length + szS s ≤ 1000 →
    ∃ m' rs', wLay k [some (.ref n), some bd, some (srD s0), some (stD s)] m = .nx [some (.ref n), some bd, some (srD (layS T s0 s).2), some (stD s)] m' ∧ PlanM m' n t c rs' (layS T s0 s).1 ∧ Bl n m m' ∧ m.length ≤ m'.length
  | .set i z, k, T, rs, m, s0, hk, P, hcl, hl => by
    simp only [szS] at hl
    obtain ⟨m', w1, w2, w3, w4⟩ := w_addp (e := [some (.ref n), some bd, some (srD s0), some (stD (.set i z))]) (a := eVar 3) (aa := aCons (eVar 2) aNil) (tk := .st (.set i z)) (S := [s0]) P (by omega) hcl rfl rfl (a_c rfl rfl) (by simp)
    exact ⟨m', _, s_ifF (by rw [w_wd rfl ok_if]; rfl) (s_ifF (by rw [w_wd rfl ok_while]; rfl) (s_asg (e_tup (a_c w1 (a_c rfl rfl))))), w2, w3, w4⟩
  | .say z, k, T, rs, m, s0, hk, P, hcl, hl => by
    simp only [szS] at hl
    obtain ⟨m', w1, w2, w3, w4⟩ := w_addp (e := [some (.ref n), some bd, some (srD s0), some (stD (.say z))]) (a := eVar 3) (aa := aCons (eVar 2) aNil) (tk := .st (.say z)) (S := [s0]) P (by omega) hcl rfl rfl (a_c rfl rfl) (by simp)
    exact ⟨m', _, s_ifF (by rw [w_wd rfl ok_if]; rfl) (s_ifF (by rw [w_wd rfl ok_while]; rfl) (s_asg (e_tup (a_c w1 (a_c rfl rfl))))), w2, w3, w4⟩
  | .call r, k, T, rs, m, s0, hk, P, hcl, hl => by
    simp only [szS] at hl
    obtain ⟨m', w1, w2, w3, w4⟩ := w_addp (e := [some (.ref n), some bd, some (srD s0), some (stD (.call r))]) (a := eVar 3) (aa := aCons (eVar 2) aNil) (tk := .st (.call r)) (S := [s0]) P (by omega) hcl rfl rfl (a_c rfl rfl) (by simp)
    exact ⟨m', _, s_ifF (by rw [w_wd rfl ok_if]; rfl) (s_ifF (by rw [w_wd rfl ok_while]; rfl) (s_asg (e_tup (a_c w1 (a_c rfl rfl))))), w2, w3, w4⟩
  | .ifs w a b x y, k, T, rs, m, s0, hk, P, hcl, hl => by
    simp only [szS] at hl
    simp only [dpS] at hk
    have d1 := dpB_pos x
    have d2 := dpB_pos y
    obtain ⟨k1, rfl⟩ : ∃ k1, k = k1 + 2 := ⟨k - 2, by omega⟩
    have g1 := Grown.add hcl (.ts w a b) [s0]
    have g2 := grownB (s0 := (T.tasks.length, 0)) g1.cm x
    have g3 := grownB (s0 := (T.tasks.length, 1)) g2.cm y
    have t1 := g1.tk; have t2 := g2.tk; have t3 := g3.tk
    obtain ⟨m1, v1, P1, b1, l1⟩ := w_addp (e := [some (.ref n), some (stD (.ifs w a b x y)), some (srD s0), none, none, none]) (a := eOp dIx (eVar 1) (eC (.int 1))) (aa := aCons (eVar 2) aNil) (tk := .ts w a b) (S := [s0]) P (by omega) hcl rfl
      (e_op rfl rfl (v_ixT (d := tsD w a b) rfl)) (a_c rfl rfl) (by simp)
    obtain ⟨m2, rs2, v2, P2, b2, l2⟩ := lay_of (w_layL x (k := k1) (T := T.add (.ts w a b) [s0]) (s0 := (T.tasks.length, 0)) (by omega) P1 g1.cm (by omega))
    obtain ⟨m3, rs3, v3, P3, b3, l3⟩ := lay_of (w_layL y (k := k1) (T := (layB (T.add (.ts w a b) [s0]) (T.tasks.length, 0) x).1) (s0 := (T.tasks.length, 1)) (by omega) P2 g2.cm (by omega))
    obtain ⟨m4, v4, P4, b4, l4⟩ := w_addp (e := [some (.ref n), some (stD (.ifs w a b x y)), some (srD s0), some (I T.tasks.length), some (srD (layB (T.add (.ts w a b) [s0]) (T.tasks.length, 0) x).2), some (srD (layB (layB (T.add (.ts w a b) [s0]) (T.tasks.length, 0) x).1 (T.tasks.length, 1) y).2)])
      (a := eC (.str "join")) (aa := aCons (eVar 5) (aCons (eVar 4) aNil)) (tk := .jn) (S := [(layB (layB (T.add (.ts w a b) [s0]) (T.tasks.length, 0) x).1 (T.tasks.length, 1) y).2, (layB (T.add (.ts w a b) [s0]) (T.tasks.length, 0) x).2]) P3 (by omega) g3.cm rfl rfl (a_c rfl (a_c rfl rfl)) (by simp)
    refine ⟨m4, _, s_ifT (by rw [w_wd rfl ok_if]; rfl) (s_asg (e_meth rfl P.ins rfl (a_c rfl (a_c rfl rfl)) (r := .ok (srD (layS T s0 (.ifs w a b x y)).2) m4) ?_)), P4, b1.trans (b2.trans (b3.trans b4)), by omega⟩
    rw [f_Plan_lay_if_succ]
    refine af_rt rfl (s_seq (s_asg v1) (s_seq (s_asg (e_meth rfl P1.ins rfl (a_c (e_op rfl rfl (v_ixT (d := .tup (bdD x)) rfl)) (a_c (e_tup (a_c rfl (a_c rfl rfl))) rfl)) v2)) (s_seq (s_asg (e_meth rfl P2.ins rfl (a_c (e_op rfl rfl (v_ixT (d := .tup (bdD y)) rfl)) (a_c (e_tup (a_c rfl (a_c rfl rfl))) rfl)) v3)) (s_ret (e_tup (a_c v4 (a_c rfl rfl)))))))
  | .whl w a b x, k, T, rs, m, s0, hk, P, hcl, hl => by
    simp only [szS] at hl
    simp only [dpS] at hk
    have d1 := dpB_pos x
    obtain ⟨k1, rfl⟩ : ∃ k1, k = k1 + 2 := ⟨k - 2, by omega⟩
    have g1 := Grown.add hcl (.ts w a b) [s0]
    have g2 := grownB (s0 := (T.tasks.length, 0)) g1.cm x
    have t1 := g1.tk; have t2 := g2.tk
    obtain ⟨m1, v1, P1, b1, l1⟩ := w_addp (e := [some (.ref n), some (stD (.whl w a b x)), some (srD s0), none, none]) (a := eOp dIx (eVar 1) (eC (.int 1))) (aa := aCons (eVar 2) aNil) (tk := .ts w a b) (S := [s0]) P (by omega) hcl rfl
      (e_op rfl rfl (v_ixT (d := tsD w a b) rfl)) (a_c rfl rfl) (by simp)
    obtain ⟨m2, rs2, v2, P2, b2, l2⟩ := lay_of (w_layL x (k := k1) (T := T.add (.ts w a b) [s0]) (s0 := (T.tasks.length, 0)) (by omega) P1 g1.cm (by omega))
    have ec : (layB (T.add (.ts w a b) [s0]) (T.tasks.length, 0) x).1.coming[T.tasks.length]? = some [s0] := Bk.pre_get g2.pc (snoc_at hcl)
    have hp : T.tasks.length < rs2.length := by rw [P2.len]; exact (List.getElem?_eq_some_iff.mp ec).1
    have er : rs2[T.tasks.length]? = some rs2[T.tasks.length] := List.getElem?_eq_getElem hp
    have hr := P2.ls _ _ _ er ec
    have hrm : rs2[T.tasks.length] ∈ rs2 := List.getElem_mem hp
    generalize hq : rs2[T.tasks.length] = q at er hr hrm
    have nd := P2.nd
    simp only [List.nodup_cons, List.mem_cons, not_or] at nd
    obtain ⟨⟨nt, nc, nr⟩, ⟨tc, tr⟩, cr, rn⟩ := nd
    have hnq : n < q := P2.lo q (by simp [hrm])
    have nq : n ≠ q := by omega
    have tq : t ≠ q := fun z => tr (z ▸ hrm)
    have cq : c ≠ q := fun z => cr (z ▸ hrm)
    let s1 := (layB (T.add (.ts w a b) [s0]) (T.tasks.length, 0) x).2
    have P3 : PlanM (m2.set q (.lst ([s0].map srD ++ [srD s1]))) n t c rs2 ((layB (T.add (.ts w a b) [s0]) (T.tasks.length, 0) x).1.also T.tasks.length s1) := by
      refine ⟨by rw [List.getElem?_set_ne (Ne.symm nq)]; exact P2.ins, by rw [List.getElem?_set_ne (Ne.symm tq)]; exact P2.tk, by rw [List.getElem?_set_ne (Ne.symm cq)]; exact P2.cm, by simp [Pn.also, P2.len], fun i r l h1 h2 => ?_, P2.nd, P2.lo⟩
      rcases modify_get h2 with ⟨rfl, x', hx, rfl⟩ | ⟨hne, h2⟩
      · rw [ec] at hx; cases hx
        rw [er] at h1; cases h1
        rw [get_set hr]
        simp
      · have hrq : r ≠ q := fun z => by
          subst z
          have i1 := (List.getElem?_eq_some_iff.mp h1)
          have i2 := (List.getElem?_eq_some_iff.mp er)
          exact hne ((List.getElem_inj rn).mp (i1.2.trans i2.2.symm))
        rw [List.getElem?_set_ne (Ne.symm hrq)]
        exact P2.ls i r l h1 h2
    refine ⟨_, _, s_ifF (by rw [w_wd rfl ok_if]; rfl) (s_ifT (by rw [w_wd rfl ok_while]; rfl) (s_asg (e_meth rfl P.ins rfl (a_c rfl (a_c rfl rfl)) (r := .ok (srD (layS T s0 (.whl w a b x)).2) (m2.set q (.lst ([s0].map srD ++ [srD s1])))) ?_))), P3, b1.trans (b2.trans (.set (by omega))), by rw [List.length_set]; omega⟩
    rw [show f_Plan_lay_while (k1 + 2) = afOf 5 (a_Plan_lay_while (f_Plan_lay (k1 + 1))) from rfl]
    refine af_rt rfl (s_seq (s_asg v1) (s_seq (s_asg (e_meth rfl P1.ins rfl (a_c (e_op rfl rfl (v_ixT (d := .tup (bdD x)) rfl)) (a_c (e_tup (a_c rfl (a_c rfl rfl))) rfl)) v2))
      (s_seq (s_exp (e_mt (e_op (v_fld rfl P2.ins rfl) rfl (v_ixL P2.cm (atI_nat (by rw [List.getElem?_map, er]; rfl)))) (w_isL hr) (a_c rfl rfl) (v_append hr (by simp)))) (s_ret (e_tup (a_c rfl (a_c rfl rfl)))))))
theorem w_layL {n t c : Nat} {bd : D} : ∀ (b : List Stm) {k : Nat} {T : Pn} {rs : List Nat} {m : Mem} {s0 : Start} {x3 : Option D}, 2 * dpB b ≤ k + 2 → PlanM m n t c rs T → T.coming.length = T.tasks.length → T.tasks.length + szB b ≤ 1000 →
    ∃ m' rs' x3', forL (gN 3) (wLay k) [] (bdD b) [some (.ref n), some bd, some (srD s0), x3] m = .nx [some (.ref n), some bd, some (srD (layB T s0 b).2), x3'] m' ∧ PlanM m' n t c rs' (layB T s0 b).1 ∧ Bl n m m' ∧ m.length ≤ m'.length
  | [], k, T, rs, m, s0, x3, hk, P, hcl, hl => ⟨m, rs, x3, forL_nil gd_nil, P, .refl, Nat.le_refl _⟩
  | s :: r, k, T, rs, m, s0, x3, hk, P, hcl, hl => by
    simp only [szB] at hl
    simp only [dpB] at hk
    have g1 := grownS (s0 := s0) hcl s
    have t1 := g1.tk
    obtain ⟨m1, rs1, v1, P1, b1, l1⟩ := w_layS (bd := bd) s (k := k) (s0 := s0) (by omega) P hcl (by omega)
    obtain ⟨m2, rs2, x3', v2, P2, b2, l2⟩ := w_layL (bd := bd) r (k := k) (T := (layS T s0 s).1) (s0 := (layS T s0 s).2) (x3 := some (stD s)) (by omega) P1 g1.cm (by omega)
    exact ⟨m2, rs2, x3', by rw [show bdD (s :: r) = stD s :: bdD r from by simp [bdD], forL_nx gd_nil rfl v1, v2]; rfl, P2, b1.trans b2, by omega⟩
end
theorem w_layB {n t c : Nat} (b : List Stm) {k : Nat} {T : Pn} {rs : List Nat} {m : Mem} {s0 : Start} (hk : 2 * dpB b ≤ k + 2) (P : PlanM m n t c rs T) (hcl : T.coming.length = T.tasks.length) (hl : T.tasks.length + szB b ≤ 1000) :
    ∃ m' rs', f_Plan_lay (k + 1) [.ref n, .tup (bdD b), srD s0] m = .ok (srD (layB T s0 b).2) m' ∧ PlanM m' n t c rs' (layB T s0 b).1 ∧ Bl n m m' ∧ m.length ≤ m'.length := lay_of (w_layL b hk P hcl hl)
end Cl
set_option Elab.async false
set_option linter.all false
set_option maxRecDepth 100000
namespace Cl
open PySem PySem.Spec PyProof.Rows L2 Ab Bk
theorem gd_one {m : Mem} {n : Nat} {c : Cell} (h : m[n]? = some c) : Gd.Ok [(n, c)] m := fun p hp => by
  rw [List.mem_singleton] at hp
  subst hp
  exact h
/-- the comprehension over all starts -/
noncomputable def wHi : AE := eCall mkTup (aCons (eVar 5) (aCons (eVar 3) (aNil)))
noncomputable def gHo : AG := gT 2 (gsCons (gN 3) (gsCons (gN 4) (gsNil)))
theorem hs3 (s : Start) (q : Nat) : D.tup [srD s, I q] = tI3 (s3 s q) := rfl
theorem heads_len (c : List (List Start)) (k : Nat) : (headsOf c k).length = c.flatten.length := by
  unfold headsOf
  induction c generalizing k with
  | nil => rfl
  | cons l c ih => rw [List.zipIdx_cons, List.flatMap_cons, List.length_append, ih, List.flatten_cons, List.length_append]; simp
theorem lc2_heads {c : Nat} {E0 E1 E2 E6 E7 : Option D} {rs : List Nat} {m0 : Mem} (hc : m0[c]? = some (.lst (rs.map D.ref))) : ∀ (rs2 : List Nat) (cm : List (List Start)) (k : Nat) (acc : List D), rs2.length = cm.length → (∀ (i r : Nat) (l : List Start), rs2[i]? = some r → cm[i]? = some l → m0[r]? = some (.lst (l.map srD))) →
    acc.length + cm.flatten.length < 2 ^ 24 →
    lc2L gHo tYesA (iE (eVar 4)) (gN 5) tYesA wHi [5] [(c, .lst (rs.map D.ref))] [E0, E1, E2, none, none, none, E6, E7] m0.length ((rs2.map D.ref).zipIdx k |>.map fun p => .tup [.int (p.2 : Int), p.1]) (m0 ++ [.lst acc]) = .ok () (m0 ++ [.lst (acc ++ (headsOf cm k).map tI3)])
  | [], [], k, acc, _, _, _ => by
    show lc2L _ _ _ _ _ _ _ _ _ _ [] _ = _
    unfold lc2L
    rw [if_pos (gd_one (Pre.add _ _ hc))]
    simp [headsOf]
  | [], _ :: _, _, _, h, _, _ => by cases h
  | _ :: _, [], _, _, h, _, _ => by cases h
  | r :: rs2, l :: cm, k, acc, hlen, hls, hsz => by
    rw [List.map_cons, List.zipIdx_cons, List.map_cons]
    unfold lc2L
    rw [if_pos (gd_one (Pre.add _ _ hc))]
    have e1 : gHo (.tup [.int (k : Int), .ref r]) [E0, E1, E2, none, none, none, E6, E7] (m0 ++ [.lst acc]) = .ok [E0, E1, E2, some (.int (k : Int)), some (.ref r), none, E6, E7] (m0 ++ [.lst acc]) := rfl
    dsimp only
    rw [e1]
    dsimp only
    have hr : m0[r]? = some (.lst (l.map srD)) := hls 0 r l rfl rfl
    have e2 : iE (eVar 4) [E0, E1, E2, some (.int (k : Int)), some (.ref r), none, E6, E7] (m0 ++ [.lst acc]) = .ok (l.map srD, [(r, .lst (l.map srD))]) (m0 ++ [.lst acc]) := by
      rw [w_iE, show eVar 4 [E0, E1, E2, some (.int (k : Int)), some (.ref r), none, E6, E7] (m0 ++ [.lst acc]) = .ok (.ref r) (m0 ++ [.lst acc]) from rfl, v_bind]
      unfold itD
      simp only [Pre.add (x := [Cell.lst acc]) _ _ hr]
    rw [List.flatten_cons, List.length_append] at hsz
    have e3 := lcL_pure (tg := gN 5) (tt := tYesA) (el := wHi) (gd := [(r, .lst (l.map srD))]) (env := [E0, E1, E2, some (.int (k : Int)), some (.ref r), none, E6, E7]) (m0 := m0) srD (fun _ => true) (fun s => tI3 (s3 s k)) (fun acc => gd_one (Pre.add _ _ hr)) l acc
      (fun s hs acc => ⟨[E0, E1, E2, some (.int (k : Int)), some (.ref r), some (srD s), E6, E7], rfl, rfl, fun _ => rfl⟩) (by omega)
    rw [List.filter_eq_self.mpr (fun _ _ => rfl)] at e3
    have e4 : tYesA [E0, E1, E2, some (.int (k : Int)), some (.ref r), none, E6, E7] (m0 ++ [.lst acc]) = .ok true (m0 ++ [.lst acc]) := rfl
    rw [e4]
    dsimp only
    rw [if_pos rfl, e2]
    dsimp only
    rw [show wipeE [E0, E1, E2, some (.int (k : Int)), some (.ref r), none, E6, E7] [5] = [E0, E1, E2, some (.int (k : Int)), some (.ref r), none, E6, E7] from rfl, e3]
    dsimp only
    rw [lc2_heads hc rs2 cm (k + 1) (acc ++ l.map fun s => tI3 (s3 s k)) (by simpa using hlen) (fun i r l h1 h2 => hls (i + 1) r l (by simpa using h1) (by simpa using h2)) (by rw [List.length_append, List.length_map]; omega)]
    congr 3
    rw [List.append_assoc]
    congr 1
    unfold headsOf
    rw [List.zipIdx_cons, List.flatMap_cons, List.map_append, List.map_map]
    rfl
/-! the ways -/
abbrev wKey (r : T3) : List Int := [r.1.1, r.1.2]
def waysK (k : Nat) (ws : List T3) : List (List Int × D) := (ws.zipIdx k).map fun p => (wKey p.1, D.tup [I p.2, .int p.1.2])
noncomputable def gWa : AG := gT 2 (gsCons (gN 6) (gsCons (gT 2 (gsCons (gN 5) (gsCons (gN 7) (gsNil)))) (gsNil)))
noncomputable def vWa : AE := eCall mkTup (aCons (eVar 6) (aCons (eVar 7) (aNil)))
theorem waysK_keys (k : Nat) (ws : List T3) : (waysK k ws).map (·.1) = ws.map wKey := by
  unfold waysK
  rw [List.map_map]
  show (ws.zipIdx k).map (wKey ∘ Prod.fst) = _
  rw [← List.map_map, List.zipIdx_map_fst]
theorem putT_new {kvs : List (List Int × D)} {k : List Int} {v : D} (h : k ∉ kvs.map (·.1)) : putT kvs k v = kvs ++ [(k, v)] := by
  have : valT kvs k = none := by
    unfold valT
    rw [Option.map_eq_none_iff, List.find?_eq_none]
    intro x hx hk
    exact h (by rw [← of_decide_eq_true hk]; exact List.mem_map_of_mem hx)
  unfold putT
  rw [this, if_neg (by simp)]
theorem dc_ways {n0 : Nat} {ws0 : List T3} {E0 E1 E2 E3 E4 : Option D} {m0 : Mem} (hn : m0[n0]? = some (.lst (ws0.map tI3))) : ∀ (ws : List T3) (k : Nat) (acc : List (List Int × D)), (acc.map (·.1) ++ ws.map wKey).Nodup → acc.length + ws.length < 2 ^ 24 →
    dcL gWa tYesA (eVar 5) vWa [(n0, .lst (ws0.map tI3))] [E0, E1, E2, E3, E4, none, none, none] m0.length (((ws.map tI3).zipIdx k).map fun p => .tup [.int (p.2 : Int), p.1]) (m0 ++ [.dit acc]) = .ok () (m0 ++ [.dit (acc ++ waysK k ws)])
  | [], k, acc, _, _ => by
    show dcL _ _ _ _ _ _ _ [] _ = _
    unfold dcL
    rw [if_pos (gd_one (Pre.add _ _ hn))]
    simp [waysK]
  | w :: ws, k, acc, hd, hl => by
    rw [List.map_cons, List.zipIdx_cons, List.map_cons]
    unfold dcL
    rw [if_pos (gd_one (Pre.add _ _ hn))]
    obtain ⟨⟨a, b⟩, q⟩ := w
    dsimp only
    have e1 : gWa (.tup [.int (k : Int), tI3 ((a, b), q)]) [E0, E1, E2, E3, E4, none, none, none] (m0 ++ [.dit acc]) = .ok [E0, E1, E2, E3, E4, some (.tup [.int a, .int b]), some (.int (k : Int)), some (.int q)] (m0 ++ [.dit acc]) := rfl
    rw [e1]
    dsimp only
    rw [show tYesA [E0, E1, E2, E3, E4, some (.tup [.int a, .int b]), some (.int (k : Int)), some (.int q)] (m0 ++ [.dit acc]) = .ok true (m0 ++ [.dit acc]) from rfl]
    dsimp only
    rw [if_pos rfl, show eVar 5 [E0, E1, E2, E3, E4, some (.tup [.int a, .int b]), some (.int (k : Int)), some (.int q)] (m0 ++ [.dit acc]) = .ok (.tup [.int a, .int b]) (m0 ++ [.dit acc]) from rfl]
    dsimp only
    rw [show vWa [E0, E1, E2, E3, E4, some (.tup [.int a, .int b]), some (.int (k : Int)), some (.int q)] (m0 ++ [.dit acc]) = .ok (.tup [.int (k : Int), .int q]) (m0 ++ [.dit acc]) from rfl]
    dsimp only
    rw [show (m0 ++ [Cell.dit acc])[m0.length]? = some (.dit acc) from new_get, show keyT (.tup [.int a, .int b]) = some [a, b] from rfl]
    dsimp only
    rw [if_pos (by show acc.length < 2 ^ 24; rw [List.length_cons] at hl; omega)]
    rw [List.map_cons] at hd
    have hnew : [a, b] ∉ acc.map (·.1) := fun z => (List.nodup_append.mp hd).2.2 _ z _ List.mem_cons_self rfl
    rw [putT_new hnew]
    have hs : (m0 ++ [Cell.dit acc]).set m0.length (.dit (acc ++ [([a, b], .tup [.int (k : Int), .int q])])) = m0 ++ [.dit (acc ++ [([a, b], .tup [.int (k : Int), .int q])])] := by simp
    rw [hs, dc_ways hn ws (k + 1) _ (by rw [List.map_append, List.append_assoc]; exact hd) (by rw [List.length_append]; rw [List.length_cons] at hl; simp; omega)]
    congr 3
    rw [List.append_assoc]
    unfold waysK
    rw [List.zipIdx_cons, List.map_cons]
    rfl
theorem ways_nodup (T : Pn) : ((waysL T).map wKey).Nodup := by
  unfold waysL
  rw [List.map_map]
  refine List.Pairwise.map _ (fun a b hab e => hab ?_) (starts_nodup T.tasks)
  have : [((a.1 : Nat) : Int), (a.2 : Int)] = [((b.1 : Nat) : Int), (b.2 : Int)] := e
  simp at this
  exact Prod.ext (by omega) (by omega)
/-- a plan that is made -/
structure PlanO (m : Mem) (n : Nat) (T : Pn) (t c w : Nat) : Prop where
  ins : m[n]? = some (.ins "Plan" [("tasks", .ref t), ("coming", .ref c), ("ways", .ref w)])
  tk : m[t]? = some (.lst (T.tasks.map tkD))
  wy : m[w]? = some (.dit (waysK 0 (waysL T)))
theorem PlanO.kp {m m' : Mem} {n : Nat} {T : Pn} {t c w : Nat} (P : PlanO m n T t c w) {S : List Nat} (k : Kp S m m') (hn : n ∉ S) (ht : t ∉ S) (hw : w ∉ S) : PlanO m' n T t c w := ⟨k _ _ P.ins hn, k _ _ P.tk ht, k _ _ P.wy hw⟩
theorem w_plan_init {m : Mem} {n : Nat} {b : List Stm} (h : m[n]? = some (.ins "Plan" [])) (hd : dpB b ≤ 8) (hz : szB b ≤ 38) :
    ∃ m' t c w, f_Plan_init [.ref n, .tup (bdD b)] m = .ok .non m' ∧ PlanO m' n (plan b) t c w ∧ n < t ∧ n < w ∧ Bl n m m' ∧ m.length ≤ m'.length ∧ t ≠ w := by
  have hn : n < m.length := (List.getElem?_eq_some_iff.mp h).1
  let E (x2 : Option D) : Env' := [some (.ref n), some (.tup (bdD b)), x2, none, none, none, none, none]
  have s1 : sFldS "Plan" "tasks" (eVar 0) (eCall mkLst (aCons (eC (.str "begin")) (aNil))) (E none) m = .nx (E none) ((m ++ [Cell.lst [.str "begin"]]).set n (.ins "Plan" [("tasks", .ref m.length)])) :=
    s_fldS (e_lst (a_c rfl rfl)) rfl (Pre.add _ _ h) (by simp)
  generalize hm1 : (m ++ [Cell.lst [.str "begin"]]).set n (.ins "Plan" [("tasks", .ref m.length)]) = m1 at s1
  have l1 : m1.length = m.length + 1 := by rw [← hm1]; simp
  have g1 : ∀ i, i ≠ n → m1[i]? = (m ++ [Cell.lst [.str "begin"]])[i]? := fun i hi => by rw [← hm1, List.getElem?_set_ne (Ne.symm hi)]
  have i1 : m1[n]? = some (.ins "Plan" [("tasks", .ref m.length)]) := by rw [← hm1]; exact get_set (Pre.add _ _ h)
  have t1 : m1[m.length]? = some (.lst [.str "begin"]) := by rw [g1 _ (by omega)]; exact new_get
  have s2 : sFldS "Plan" "coming" (eVar 0) (eCall mkLst (aCons (eCall mkLst (aNil)) (aNil))) (E none) m1 = .nx (E none) ((m1 ++ [Cell.lst []] ++ [Cell.lst [.ref m1.length]]).set n (.ins "Plan" [("tasks", .ref m.length), ("coming", .ref (m1.length + 1))])) := by
    have e : eCall mkLst (aCons (eCall mkLst (aNil)) (aNil)) (E none) m1 = .ok (.ref (m1.length + 1)) (m1 ++ [Cell.lst []] ++ [Cell.lst [.ref m1.length]]) := by
      have := e_lst (e := E none) (m := m1) (aa := aCons (eCall mkLst aNil) aNil) (ds := [.ref m1.length]) (a_c (e_lst (e := E none) (m := m1) (aa := aNil) (ds := []) rfl) rfl)
      simpa using this
    exact s_fldS e rfl (Pre.add _ _ (Pre.add _ _ i1)) (by simp)
  generalize hm2 : (m1 ++ [Cell.lst []] ++ [Cell.lst [.ref m1.length]]).set n (.ins "Plan" [("tasks", .ref m.length), ("coming", .ref (m1.length + 1))]) = m2 at s2
  have l2 : m2.length = m.length + 3 := by rw [← hm2]; simp; omega
  have g2 : ∀ i, i ≠ n → m2[i]? = (m1 ++ [Cell.lst []] ++ [Cell.lst [.ref m1.length]])[i]? := fun i hi => by rw [← hm2, List.getElem?_set_ne (Ne.symm hi)]
  have P0 : PlanM m2 n m.length (m1.length + 1) [m1.length] ⟨[.bg], [[]]⟩ := by
    refine ⟨by rw [← hm2]; exact get_set (Pre.add _ _ (Pre.add _ _ i1)), ?_, ?_, rfl, fun i r l h1 h2 => ?_, by simp; omega, by simp; omega⟩
    · rw [g2 _ (by omega)]; exact Pre.add _ _ (Pre.add _ _ t1)
    · rw [g2 _ (by omega)]
      have : (m1 ++ [Cell.lst []]).length = m1.length + 1 := by simp
      rw [← this]; exact new_get
    · cases i with
      | succ i => simp at h1
      | zero =>
        simp at h1 h2
        subst h1; subst h2
        rw [g2 _ (by omega)]
        exact Pre.add _ _ new_get
  have B2 : Bl n m m2 := fun i c hi e => by rw [g2 _ (by omega)]; exact Pre.add _ _ (Pre.add _ _ (by rw [g1 _ (by omega)]; exact Pre.add _ _ e))
  obtain ⟨m3, rs3, v3, P3, b3, l3⟩ := w_layB b (k := 19) (s0 := (0, 0)) (by omega) P0 rfl (by simp; omega)
  have G3 := grownB (T := ⟨[.bg], [[]]⟩) (s0 := (0, 0)) rfl b
  have tk3 := G3.tk
  have cm3 := G3.cm
  obtain ⟨q1, q2⟩ := new_ne P3
  obtain ⟨m4, v4, P4, b4, l4⟩ := w_add_place (P3.pre (Pre.add (x := [.lst ([(layB ⟨[.bg], [[]]⟩ (0, 0) b).2].map srD)]))) (by rw [tk3]; simp; omega) (by rw [cm3, tk3]; simp; omega) (s := m3.length) (S := [(layB ⟨[.bg], [[]]⟩ (0, 0) b).2]) new_get q1 q2 .en
  have s3 : sExp (eMeth "Plan" "add_place" f_Plan_add_place (eVar 0) (aCons (eC (.str "end")) (aCons (eCall mkLst (aCons (eMeth "Plan" "lay" (f_Plan_lay 20) (eVar 0) (aCons (eVar 1) (aCons (eCall mkTup (aCons (eC (.int 0)) (aCons (eC (.int 0)) (aNil)))) (aNil)))) (aNil))) (aNil)))) (E none) m2 = .nx (E none) m4 :=
    s_exp (e_meth rfl P0.ins rfl (a_c rfl (a_c (e_lst (a_c (e_meth rfl P0.ins rfl (a_c rfl (a_c (e_tup (a_c rfl (a_c rfl rfl))) rfl)) v3) rfl)) rfl)) v4)
  -- the heads
  have hT : (⟨(layB ⟨[.bg], [[]]⟩ (0, 0) b).1.tasks ++ [.en], (layB ⟨[.bg], [[]]⟩ (0, 0) b).1.coming ++ [[(layB ⟨[.bg], [[]]⟩ (0, 0) b).2]]⟩ : Pn) = plan b := rfl
  have P4' : PlanM m4 n m.length (m1.length + 1) (rs3 ++ [m3.length]) (plan b) := P4
  obtain ⟨G, good, _⟩ := good_plan b
  have hflat : (plan b).coming.flatten.length ≤ 1000 := by
    have hp := good.perm.length_eq
    rw [List.append_nil] at hp
    rw [hp]
    have hlen : ∀ (ts : List Tk) (k : Nat), ((ts.zipIdx k).flatMap fun p => (brs p.1).map fun b => (p.2, b)).length ≤ 2 * ts.length := by
      intro ts
      induction ts with
      | nil => intro k; simp
      | cons t ts ih =>
        intro k
        rw [List.zipIdx_cons, List.flatMap_cons, List.length_append, List.length_cons]
        have := ih (k + 1)
        have hb : ((brs (t, k).1).map fun b => ((t, k).2, b)).length ≤ 2 := by cases t <;> simp [brs]
        omega
    have h1 := hlen (plan b).tasks 0
    have h2 : (plan b).tasks.length = (layB ⟨[.bg], [[]]⟩ (0, 0) b).1.tasks.length + 1 := by show ((layB ⟨[.bg], [[]]⟩ (0, 0) b).1.tasks ++ [_]).length = _; simp
    rw [tk3] at h2
    unfold starts
    simp at h2
    omega
  have e4 : eLc2 (iA enm (aCons (eFld "Plan" "coming" (eVar 0)) (aNil))) gHo (tYesA) (iE (eVar 4)) (gN 5) (tYesA) wHi [3, 4, 5] [5] (E none) m4 = .ok (.ref m4.length) (m4 ++ [.lst ((headsOf (plan b).coming 0).map tI3)]) := by
    unfold eLc2
    have hit : iA enm (aCons (eFld "Plan" "coming" (eVar 0)) (aNil)) (E none) m4 = .ok (enumD ((rs3 ++ [m3.length]).map D.ref), [(m1.length + 1, .lst ((rs3 ++ [m3.length]).map D.ref))]) m4 := by
      show (aCons (eFld "Plan" "coming" (eVar 0)) aNil (E none) m4).bind enm = _
      rw [a_c (v_fld rfl P4'.ins rfl) rfl, v_bind]
      unfold enm
      dsimp only
      unfold itD
      simp only [P4'.cm]
      rfl
    rw [hit, v_bind]
    dsimp only
    have key := lc2_heads (E0 := some (.ref n)) (E1 := some (.tup (bdD b))) (E2 := none) (E6 := none) (E7 := none) P4'.cm (rs3 ++ [m3.length]) (plan b).coming 0 [] P4'.len P4'.ls (by simp only [List.length_nil]; omega)
    rw [List.nil_append] at key
    have key' : lc2L gHo tYesA (iE (eVar 4)) (gN 5) tYesA wHi [5] [(m1.length + 1, .lst ((rs3 ++ [m3.length]).map D.ref))] (wipeE (E none) [3, 4, 5]) m4.length (enumD ((rs3 ++ [m3.length]).map D.ref)) (m4 ++ [.lst []]) = .ok () (m4 ++ [.lst ((headsOf (plan b).coming 0).map tI3)]) := key
    rw [key']
  generalize hm5 : m4 ++ [Cell.lst ((headsOf (plan b).coming 0).map tI3)] = m5 at e4
  have P5 : PlanM m5 n m.length (m1.length + 1) (rs3 ++ [m3.length]) (plan b) := by rw [← hm5]; exact P4'.pre .add
  have l5 : m5.length = m4.length + 1 := by rw [← hm5]; simp
  have h5 : m5[m4.length]? = some (.lst ((headsOf (plan b).coming 0).map tI3)) := by rw [← hm5]; exact new_get
  -- sorted
  have e6 : eCall bSorted3 (aCons (eVar 2) (aNil)) (E (some (.ref m4.length))) m5 = .ok (.ref m5.length) (m5 ++ [.lst ((waysL (plan b)).map tI3)]) := by
    refine e_call (a_c rfl rfl) ?_
    unfold bSorted3
    simp only [h5, rows3_map]
    rw [sort_ways good]
  generalize hm6 : m5 ++ [Cell.lst ((waysL (plan b)).map tI3)] = m6 at e6
  have h6 : m6[m5.length]? = some (.lst ((waysL (plan b)).map tI3)) := by rw [← hm6]; exact new_get
  have P6 : PlanM m6 n m.length (m1.length + 1) (rs3 ++ [m3.length]) (plan b) := by rw [← hm6]; exact P5.pre .add
  have l6 : m6.length = m4.length + 2 := by rw [← hm6]; simp; omega
  have hwl : (waysL (plan b)).length ≤ 1000 := by
    have hp := good.perm.length_eq
    rw [List.append_nil] at hp
    unfold waysL
    rw [List.length_map, ← hp]
    exact hflat
  have e7 : eDcT (iA enm (aCons (eCall bSorted3 (aCons (eVar 2) (aNil))) (aNil))) gWa (tYesA) (eVar 5) vWa [6, 5, 7] (E (some (.ref m4.length))) m5 = .ok (.ref m6.length) (m6 ++ [.dit (waysK 0 (waysL (plan b)))]) := by
    unfold eDcT
    have hit : iA enm (aCons (eCall bSorted3 (aCons (eVar 2) (aNil))) (aNil)) (E (some (.ref m4.length))) m5 = .ok (enumD ((waysL (plan b)).map tI3), [(m5.length, .lst ((waysL (plan b)).map tI3))]) m6 := by
      show (aCons (eCall bSorted3 (aCons (eVar 2) (aNil))) aNil (E (some (.ref m4.length))) m5).bind enm = _
      rw [a_c e6 rfl, v_bind]
      unfold enm
      dsimp only
      unfold itD
      simp only [h6]
      rfl
    rw [hit, v_bind]
    dsimp only
    have key := dc_ways (E0 := some (.ref n)) (E1 := some (.tup (bdD b))) (E2 := some (.ref m4.length)) (E3 := none) (E4 := none) h6 (waysL (plan b)) 0 [] (by simpa using ways_nodup (plan b)) (by simp only [List.length_nil]; omega)
    rw [List.nil_append] at key
    have key' : dcL gWa tYesA (eVar 5) vWa [(m5.length, .lst ((waysL (plan b)).map tI3))] (wipeE (E (some (.ref m4.length))) [6, 5, 7]) m6.length (enumD ((waysL (plan b)).map tI3)) (m6 ++ [.dit []]) = .ok () (m6 ++ [.dit (waysK 0 (waysL (plan b)))]) := key
    rw [key']
  generalize hm7 : m6 ++ [Cell.dit (waysK 0 (waysL (plan b)))] = m7 at e7
  have P7 : PlanM m7 n m.length (m1.length + 1) (rs3 ++ [m3.length]) (plan b) := by rw [← hm7]; exact P6.pre .add
  have h7 : m7[m6.length]? = some (.dit (waysK 0 (waysL (plan b)))) := by rw [← hm7]; exact new_get
  have l7 : m7.length = m4.length + 3 := by rw [← hm7]; simp; omega
  have s4 : sAsg (eLc2 (iA enm (aCons (eFld "Plan" "coming" (eVar 0)) (aNil))) gHo (tYesA) (iE (eVar 4)) (gN 5) (tYesA) wHi [3, 4, 5] [5]) (gN 2) (E none) m4 = .nx (E (some (.ref m4.length))) m5 := s_asg e4
  have s5 : sFldS "Plan" "ways" (eVar 0) (eDcT (iA enm (aCons (eCall bSorted3 (aCons (eVar 2) (aNil))) (aNil))) gWa (tYesA) (eVar 5) vWa [6, 5, 7]) (E (some (.ref m4.length))) m5 = .nx (E (some (.ref m4.length))) (m7.set n (.ins "Plan" [("tasks", .ref m.length), ("coming", .ref (m1.length + 1)), ("ways", .ref m6.length)])) :=
    s_fldS e7 rfl P7.ins (by simp)
  rw [List.length_append, List.length_singleton] at l4
  refine ⟨_, m.length, m1.length + 1, m6.length, af_nx rfl (s_seq s1 (s_seq s2 (s_seq s3 (s_seq s4 s5)))), ⟨get_set P7.ins, by rw [List.getElem?_set_ne (by omega)]; exact P7.tk, by rw [List.getElem?_set_ne (by omega)]; exact h7⟩, hn, by omega, ?_, by rw [List.length_set]; omega, by omega⟩
  have b5 : Bl n m3 m7 := (Bl.pre .add).trans (b4.trans (Bl.pre (by
    have p5 : Pre m4 m5 := by rw [← hm5]; exact .add
    have p6 : Pre m5 m6 := by rw [← hm6]; exact .add
    have p7 : Pre m6 m7 := by rw [← hm7]; exact .add
    exact p5.trans (p6.trans p7))))
  exact B2.trans (b3.trans (b5.trans (.set (Nat.le_refl _))))
end Cl
set_option Elab.async false
set_option linter.all false
set_option maxRecDepth 100000
/-! # Runner: what its methods do -/
namespace Cl
open PySem PySem.Spec PyProof.Rows L2 Ab Bk
theorem s_asgG {a : AE} {g : AG} {e e2 : Env'} {m m1 m2 : Mem} {d : D} (h1 : a e m = .ok d m1) (h2 : g d e m1 = .ok e2 m2) : sAsg a g e m = .nx e2 m2 := by rw [v_asg, h1, v_o, h2, v_o]
theorem atI_m1 {l : List D} {x : D} : atI (l ++ [x]) (-1) = some x := by
  unfold atI ixN
  rw [if_neg (by omega), if_pos (by simp; omega)]
  simp
  rw [List.getElem?_append_right (by omega)]
  have : (-1 + ((l.length : Int) + 1)).toNat - l.length = 0 := by omega
  simp [this]
theorem cut_m1 {l : List D} {x : D} : Ab.cutD (l ++ [x]) none (some (-1)) = l := by
  have h : HT.sIx (l ++ [x]).length (l ++ [x]).length (some (-1)) = l.length := by
    rw [List.length_append, List.length_singleton]
    simp [HT.sIx]
    omega
  unfold Ab.cutD
  rw [h]
  simp [HT.sIx]
theorem valT_map {α : Type} (key : α → List Int) (g : α → Nat → D) (hk : ∀ a b, key a = key b → a = b) [BEq α] [LawfulBEq α] : ∀ (l : List α) (k : Nat) (s : α), s ∈ l → valT ((l.zipIdx k).map fun p => (key p.1, g p.1 p.2)) (key s) = some (g s (k + l.idxOf s))
  | x :: l, k, s, h => by
    rw [List.zipIdx_cons, List.map_cons]
    unfold valT
    by_cases e : x = s
    · subst e
      simp
    · have h2 : s ∈ l := by
        rcases List.mem_cons.mp h with z | z
        · exact absurd z.symm e
        · exact z
      have ne : ¬ key x = key s := fun z => e (hk _ _ z)
      rw [List.find?_cons_of_neg (by simpa using ne)]
      have := valT_map key g hk l (k + 1) s h2
      unfold valT at this
      rw [this]
      have e2 : List.idxOf s (x :: l) = List.idxOf s l + 1 := by
        rw [List.idxOf_cons, (beq_eq_false_iff_ne (a := x) (b := s)).mpr e]; rfl
      rw [e2]
      congr 2
      omega
theorem ways_get (T : Pn) {s : Start} (h : s ∈ starts T.tasks) : valT (waysK 0 (waysL T)) [(s.1 : Int), (s.2 : Int)] = some (.tup [I ((starts T.tasks).idxOf s), I (dest T s)]) := by
  have e : waysK 0 (waysL T) = ((starts T.tasks).zipIdx 0).map fun p => ((fun s : Start => [(s.1 : Int), (s.2 : Int)]) p.1, (fun (s : Start) (i : Nat) => D.tup [I i, I (dest T s)]) p.1 p.2) := by
    unfold waysK waysL
    rw [List.zipIdx_map, List.map_map]
    rfl
  rw [e]
  have := valT_map (fun s : Start => [(s.1 : Int), (s.2 : Int)]) (fun (s : Start) (i : Nat) => D.tup [I i, I (dest T s)]) (fun a b hab => by simp at hab; exact Prod.ext (by omega) (by omega)) (starts T.tasks) 0 s h
  rw [this, Nat.zero_add]
def stsD (l : List (Nat × Nat)) : D := .tup (l.map srD)
def pastD (p : Past) : D := .tup [stsD p.stands, smD p.hold, I p.spoken, I p.gone]
def runF (bk : D) (pl sp gn pa mk : Nat) (st : List (Nat × Nat)) (hd : List Int) : List (Str × D) :=
  [("book", bk), ("plans", .ref pl), ("stands", stsD st), ("holding", smD hd), ("spoken", .ref sp), ("gone", .ref gn), ("past", .ref pa), ("marks", .ref mk)]
/-- the plans of all routines; what S names are none of their cells -/
def PlansO (m : Mem) (pl : Nat) (bs : List (List Stm)) (S : List Nat) : Prop := ∃ ps : List Nat, m[pl]? = some (.lst (ps.map D.ref)) ∧ pl ∉ S ∧ ps.length = bs.length ∧
  ∀ (i p : Nat) (b : List Stm), ps[i]? = some p → bs[i]? = some b → ∃ t c w, PlanO m p (plan b) t c w ∧ p ∉ S ∧ t ∉ S ∧ w ∉ S
theorem PlansO.kp {m m' : Mem} {pl : Nat} {bs : List (List Stm)} {S : List Nat} (P : PlansO m pl bs S) (k : Kp S m m') : PlansO m' pl bs S := by
  obtain ⟨ps, h1, h2, h3, h4⟩ := P
  refine ⟨ps, k _ _ h1 h2, h2, h3, fun i p b e1 e2 => ?_⟩
  obtain ⟨t, c, w, Q, q1, q2, q3⟩ := h4 i p b e1 e2
  exact ⟨t, c, w, Q.kp k q1 q2 q3, q1, q2, q3⟩
structure RunO (bs : List (List Stm)) (m : Mem) (r pl sp gn pa mk : Nat) (bk : D) (s : Rs) : Prop where
  ins : m[r]? = some (.ins "Runner" (runF bk pl sp gn pa mk s.stands s.hold))
  spo : m[sp]? = some (.lst (s.spoken.map D.int))
  gon : m[gn]? = some (.lst (s.gone.map srD))
  pas : m[pa]? = some (.lst (s.past.map pastD))
  mks : m[mk]? = some (.dit (s.marks.map fun k => (k, .bl true)))
  nd : [r, sp, gn, pa, mk].Nodup
  pls : PlansO m pl bs [r, sp, gn, pa, mk]
theorem RunO.pre {bs : List (List Stm)} {m m' : Mem} {r pl sp gn pa mk : Nat} {bk : D} {s : Rs} (R : RunO bs m r pl sp gn pa mk bk s) (p : Pre m m') : RunO bs m' r pl sp gn pa mk bk s :=
  ⟨p _ _ R.ins, p _ _ R.spo, p _ _ R.gon, p _ _ R.pas, p _ _ R.mks, R.nd, R.pls.kp (Kp.pre p)⟩
section
variable {bs : List (List Stm)} {m : Mem} {r pl sp gn pa mk : Nat} {bk : D} {s : Rs}
theorem RunO.pl_get (R : RunO bs m r pl sp gn pa mk bk s) {k : Nat} (hk : k < bs.length) : ∃ (ps : List Nat) (p t c w : Nat), m[pl]? = some (.lst (ps.map D.ref)) ∧ atI (ps.map D.ref) (k : Int) = some (.ref p) ∧ PlanO m p (plan (bod bs k)) t c w := by
  obtain ⟨ps, h1, h2, h3, h4⟩ := R.pls
  have hp : ps[k]? = some (ps[k]'(by omega)) := List.getElem?_eq_getElem (by omega)
  obtain ⟨t, c, w, Q, _⟩ := h4 k _ (bod bs k) hp (by unfold bod; rw [List.getD_eq_getElem?_getD, List.getElem?_eq_getElem hk]; rfl)
  exact ⟨ps, _, t, c, w, h1, atI_nat (by rw [List.getElem?_map, hp]; rfl), Q⟩
theorem top_atI (hs : s.stands ≠ []) : atI (s.stands.map srD) (-1) = some (srD (top s)) := by
  conv => lhs; rw [stands_top hs]
  rw [List.map_append]
  exact atI_m1
/-- the task at which it stands -/
theorem w_task (R : RunO bs m r pl sp gn pa mk bk s) (hs : s.stands ≠ []) (h1 : (top s).1 < bs.length) (h2 : (top s).2 < (plan (bod bs (top s).1)).tasks.length) : f_Runner_task [.ref r] m = .ok (tkD (tkAt bs (top s))) m := by
  obtain ⟨ps, p, t, c, w, q1, q2, Q⟩ := R.pl_get h1
  have e1 : eOp dIx (eFld "Runner" "stands" (eVar 0)) (eUn dNeg (eC (.int 1))) [some (.ref r), none, none] m = .ok (srD (top s)) m := e_op (v_fld rfl R.ins rfl) rfl (v_ixT (top_atI hs))
  have e2 : sAsg (eOp dIx (eFld "Runner" "stands" (eVar 0)) (eUn dNeg (eC (.int 1)))) (gT 2 (gsCons (gN 1) (gsCons (gN 2) (gsNil)))) [some (.ref r), none, none] m = .nx [some (.ref r), some (I (top s).1), some (I (top s).2)] m := s_asgG e1 rfl
  have e3 : atI ((plan (bod bs (top s).1)).tasks.map tkD) ((top s).2 : Int) = some (tkD (tkAt bs (top s))) := atI_nat (by
    unfold tkAt
    rw [List.getElem?_map, List.getD_eq_getElem?_getD, List.getElem?_eq_getElem h2]; rfl)
  exact af_rt rfl (s_seq e2 (s_ret (e_op (v_fld (e_op (v_fld rfl R.ins rfl) rfl (v_ixL q1 q2)) Q.ins rfl) rfl (v_ixL Q.tk e3))))
/-! words -/
def wordTk : Tk → Str
  | .bg => "begin"
  | .jn => "join"
  | .en => "end"
  | .st s => wdS s
  | .ts w _ _ => if w then "less" else "same"
theorem ok_begin : PyData.strOk ("begin" : Str) = true := by decide +kernel
theorem ok_join : PyData.strOk ("join" : Str) = true := by decide +kernel
theorem ok_end : PyData.strOk ("end" : Str) = true := by decide +kernel
theorem ok_less : PyData.strOk ("less" : Str) = true := by decide +kernel
theorem ok_same : PyData.strOk ("same" : Str) = true := by decide +kernel
theorem ok_runs : PyData.strOk ("runs" : Str) = true := by decide +kernel
theorem ok_over : PyData.strOk ("over" : Str) = true := by decide +kernel
theorem ok_fault : PyData.strOk ("fault" : Str) = true := by decide +kernel
theorem ok_wordTk (t : Tk) : PyData.strOk (wordTk t) = true := by
  cases t with
  | bg => exact ok_begin
  | jn => exact ok_join
  | en => exact ok_end
  | st s => exact ok_wdS s
  | ts w a b =>
    cases w
    · exact ok_same
    · exact ok_less
@[simp] theorem kb_ss : kitB "str" "str" = some true := by decide +kernel
@[simp] theorem kb_ts : kitB "tuple" "str" = some false := by decide +kernel
theorem e_isi {T tn : String} {a : AE} {e : Env'} {m m1 : Mem} {x : D} {k : Bool} (ha : a e m = .ok x m1) (ht : tyN x m1 = some tn) (hk : kitB tn T = some k) : eIsi T a e m = .ok (.bl k) m1 := by
  rw [v_isi, ha, v_bind, ht]
  dsimp only
  rw [hk]
theorem w_word_of (t : Tk) (m : Mem) : f_word_of [tkD t] m = .ok (.str (wordTk t)) m := by
  have fstr : ∀ z : Str, f_word_of [.str z] m = .ok (.str z) m := fun z => af_rt rfl (s_seqR (s_ifT (t_v (e_isi rfl ty_s kb_ss)) (s_ret rfl)))
  have tups : ∀ (ds : List D) (z : Str), atI ds 0 = some (.str z) → f_word_of [.tup ds] m = .ok (.str z) m := fun ds z h => af_rt rfl (s_seq (s_ifF (t_v (e_isi rfl ty_t kb_ts)) rfl) (s_ret (e_op rfl rfl (v_ixT h))))
  cases t with
  | bg => exact fstr _
  | jn => exact fstr _
  | en => exact fstr _
  | st s =>
    obtain ⟨ds, e1, e2⟩ := at0_stD s
    show f_word_of [stD s] m = _
    rw [e1]; exact tups ds _ e2
  | ts w a b => exact tups _ _ rfl
theorem call_word (t : Tk) : decide (wordTk t = ("call" : Str)) = tkCall t := by
  cases t with
  | st s => cases s <;> rfl
  | ts w a b => cases w <;> rfl
  | _ => rfl
theorem w_word (R : RunO bs m r pl sp gn pa mk bk s) {C : Nat} (W : Wf bs C s) : f_Runner_word [.ref r] m = .ok (.str (Str.ofString (word bs s))) m := by
  have e1 : tTru (eFld "Runner" "stands" (eVar 0)) [some (.ref r)] m = .ok (!(s.stands.map srD).isEmpty) m := t_tru (v_fld rfl R.ins rfl) rfl
  by_cases hs : s.stands = []
  · have : word bs s = "over" := by unfold word; rw [hs]; rfl
    rw [this]
    exact af_rt (E := [some (.ref r)]) rfl (s_seqR (s_ifT (by rw [t_nt e1, hs]; rfl) (s_ret rfl)))
  · have hne : (s.stands.map srD).isEmpty = false := by
      cases q : s.stands with
      | nil => exact absurd q hs
      | cons a b => rfl
    have ht : top s ∈ s.stands := by rw [stands_top hs]; simp
    obtain ⟨a1, a2⟩ := W.at_ _ ht
    have e2 : tVal (eOp dEq (eCall bLen (aCons (eFld "Runner" "stands" (eVar 0)) (aNil))) (eC (.int 20))) [some (.ref r)] m = .ok (decide (s.stands.length = 20)) m := by
      refine t_v (e_op (e_call (a_c (v_fld rfl R.ins rfl) rfl) v_lenT) rfl ?_)
      rw [w_eqI]
      congr 2
      rw [List.length_map]
      exact decide_eq_decide.mpr (by omega)
    have e3 : tVal (eOp dEq (eCall f_word_of (aCons (eMeth "Runner" "task" f_Runner_task (eVar 0) aNil) (aNil))) (eC (.str "call"))) [some (.ref r)] m = .ok (tkCall (tkAt bs (top s))) m := by
      refine t_v (e_op (e_call (a_c (e_meth rfl R.ins rfl rfl (w_task R hs a1 a2)) rfl) (w_word_of _ _)) rfl ?_)
      rw [v_eqS (ok_wordTk _) ok_call, call_word]
    have e4 : word bs s = if (decide (s.stands.length = 20) && tkCall (tkAt bs (top s))) = true then "fault" else "runs" := by
      unfold word
      rw [if_neg (by simpa using hs)]
    have e5 : tAn (tVal (eOp dEq (eCall bLen (aCons (eFld "Runner" "stands" (eVar 0)) (aNil))) (eC (.int 20)))) (tVal (eOp dEq (eCall f_word_of (aCons (eMeth "Runner" "task" f_Runner_task (eVar 0) aNil) (aNil))) (eC (.str "call")))) [some (.ref r)] m = .ok (decide (s.stands.length = 20) && tkCall (tkAt bs (top s))) m := by
      cases h : decide (s.stands.length = 20) with
      | true => rw [Bool.true_and]; exact t_anT (h ▸ e2) e3
      | false => rw [Bool.false_and]; exact t_anF (h ▸ e2)
    rw [e4]
    refine af_rt (E := [some (.ref r)]) rfl (s_seq (s_ifF (by rw [t_nt e1, hne]; rfl) rfl) ?_)
    cases h : (decide (s.stands.length = 20) && tkCall (tkAt bs (top s))) with
    | true =>
      rw [if_pos rfl]
      exact s_seqR (s_ifT (h ▸ e5) (s_ret rfl))
    | false =>
      rw [if_neg Bool.false_ne_true]
      exact s_seq (s_ifF (h ▸ e5) rfl) (s_ret rfl)
end
end Cl
set_option Elab.async false
set_option linter.all false
set_option maxRecDepth 100000
/-! # Runner: a step -/
namespace Cl
open PySem PySem.Spec PyProof.Rows L2 Ab Bk
theorem zipD_ints : ∀ (z vs : List Int), zipD (z.map D.int) (vs.map D.int) = (z.zip vs).map fun p => D.tup [.int p.1, .int p.2]
  | [], vs => by simp [zipD]
  | _ :: _, [] => by simp [zipD]
  | x :: z, v :: vs => by
    have := zipD_ints z vs
    unfold zipD at this ⊢
    rw [List.map_cons, List.map_cons, List.zip_cons_cons, List.zip_cons_cons, List.map_cons, List.map_cons, this]
theorem last_smD {z : List Int} (h : z ≠ []) : atI (z.map D.int) (-1) = some (.int (z.getLastD 0)) := by
  obtain ⟨l, x, rfl⟩ : ∃ l x, z = l ++ [x] := ⟨z.dropLast, z.getLast h, (List.dropLast_concat_getLast h).symm⟩
  rw [List.map_append, List.map_singleton, atI_m1]
  simp
section
variable {bs : List (List Stm)} {m : Mem} {r pl sp gn pa mk : Nat} {bk : D} {s : Rs}
theorem w_total (R : RunO bs m r pl sp gn pa mk bk s) {z : List Int} (hz : z ≠ []) (hb : ∀ i ∈ z, -1000 ≤ i ∧ i ≤ 1000) (hl : z.length < 1000) : ∃ m', f_Runner_total_of [.ref r, smD z] m = .ok (.int (val z s.hold)) m' ∧ Pre m m' := by
  let E : Env' := [some (.ref r), some (smD z), none, none]
  have hit : iA zpp (aCons (eVar 1) (aCons (eFld "Runner" "holding" (eVar 0)) (aNil))) E m = .ok (zipD (z.map D.int) (s.hold.map D.int), []) m := by
    show (aCons (eVar 1) (aCons (eFld "Runner" "holding" (eVar 0)) aNil) E m).bind zpp = _
    rw [a_c (a := eVar 1) (e := E) (x := smD z) rfl (a_c (v_fld (e := E) rfl R.ins rfl) rfl), v_bind]
    rfl
  have e1 := lc_eq (tg := gT 2 (gsCons (gN 2) (gsCons (gN 3) (gsNil)))) (tt := tYesA) (el := eOp dMul (eVar 2) (eVar 3)) (vs := [2, 3]) (fun p : Int × Int => D.tup [.int p.1, .int p.2]) (z.zip s.hold) (fun _ => true) (fun p => .int (p.1 * p.2)) hit (zipD_ints z s.hold) (fun _ => gd_nil)
    (by have := List.length_zip (l₁ := z) (l₂ := s.hold); omega) (fun p hp acc => by
      refine ⟨[some (.ref r), some (smD z), some (.int p.1), some (.int p.2)], rfl, rfl, fun _ => e_op rfl rfl (v_mul (.inl ?_))⟩
      have := hb p.1 (List.of_mem_zip hp).1
      omega)
  rw [List.filter_eq_self.mpr (fun _ _ => rfl)] at e1
  refine ⟨m ++ [.lst ((z.zip s.hold).map fun p => D.int (p.1 * p.2))], ?_, .add⟩
  have e2 : (m ++ [Cell.lst ((z.zip s.hold).map fun p => D.int (p.1 * p.2))])[m.length]? = some (.lst (((z.zip s.hold).map fun p => p.1 * p.2).map D.int)) := by rw [new_get, List.map_map]; rfl
  exact af_rt (E := E) rfl (s_ret (e_op (e_call (a_c e1 rfl) (v_sumL e2)) (e_op rfl rfl (v_ixT (last_smD hz))) rfl))
theorem w_test (R : RunO bs m r pl sp gn pa mk bk s) {w : Bool} {a b : List Int} {C : Nat} (ha : okSum C a) (hb : okSum C b) (hC : C < 900) : ∃ m', f_Runner_test_holds [.ref r, tsD w a b] m = .ok (.bl (tst w a b s.hold)) m' ∧ Pre m m' := by
  have na : a ≠ [] := fun z => by have := ha.1; rw [z] at this; simp at this
  have nb : b ≠ [] := fun z => by have := hb.1; rw [z] at this; simp at this
  obtain ⟨m1, v1, p1⟩ := w_total R na ha.2 (by have := ha.1; omega)
  obtain ⟨m2, v2, p2⟩ := w_total (R.pre p1) nb hb.2 (by have := hb.1; omega)
  refine ⟨m2, ?_, p1.trans p2⟩
  let E : Env' := [some (.ref r), some (tsD w a b), none, none]
  let E2 : Env' := [some (.ref r), some (tsD w a b), some (.int (val a s.hold)), some (.int (val b s.hold))]
  have s1 : sPar2 2 3 (aCons (eMeth "Runner" "total_of" f_Runner_total_of (eVar 0) (aCons (eOp dIx (eVar 1) (eC (.int 1))) (aNil))) (aCons (eMeth "Runner" "total_of" f_Runner_total_of (eVar 0) (aCons (eOp dIx (eVar 1) (eC (.int 2))) (aNil))) (aNil))) E m = .nx E2 m2 :=
    s_par2 (a_c (e_meth rfl R.ins rfl (a_c (e_op rfl rfl (v_ixT (d := smD a) rfl)) rfl) v1) (a_c (e_meth rfl (R.pre p1).ins rfl (a_c (e_op rfl rfl (v_ixT (d := smD b) rfl)) rfl) v2) rfl))
  refine af_rt (E := E) rfl (s_seq s1 ?_)
  have e1 : tVal (eOp dEq (eOp dIx (eVar 1) (eC (.int 0))) (eC (.str "less"))) E2 m2 = .ok w m2 := by
    refine t_v (e_op (e_op rfl rfl (v_ixT (d := wdD w) rfl)) rfl ?_)
    cases w
    · exact v_eqS ok_same ok_less
    · exact v_eqS ok_less ok_less
  cases w with
  | true => exact s_seqR (s_ifT e1 (s_ret (e_op rfl rfl v_cmp)))
  | false => exact s_seq (s_ifF e1 rfl) (s_ret (e_op rfl rfl w_eqI))
/-- a runner's own cells -/
abbrev Sx (r sp gn pa mk : Nat) : List Nat := [r, sp, gn, pa, mk]
theorem putF_st (bk : D) (pl sp gn pa mk : Nat) (st st' : List (Nat × Nat)) (hd : List Int) : putFD "stands" (stsD st') (runF bk pl sp gn pa mk st hd) = runF bk pl sp gn pa mk st' hd := rfl
theorem putF_hd (bk : D) (pl sp gn pa mk : Nat) (st : List (Nat × Nat)) (hd hd' : List Int) : putFD "holding" (smD hd') (runF bk pl sp gn pa mk st hd) = runF bk pl sp gn pa mk st hd' := rfl
/-- stands, contents are changed -/
theorem RunO.setI (R : RunO bs m r pl sp gn pa mk bk s) (st : List (Nat × Nat)) (hd : List Int) : RunO bs (m.set r (.ins "Runner" (runF bk pl sp gn pa mk st hd))) r pl sp gn pa mk bk { s with stands := st, hold := hd } := by
  have nd := R.nd
  simp only [List.nodup_cons, List.mem_cons, not_or, List.not_mem_nil, not_false_eq_true] at nd
  obtain ⟨⟨n1, n2, n3, n4, _⟩, _⟩ := nd
  exact ⟨get_set R.ins, by rw [List.getElem?_set_ne n1]; exact R.spo, by rw [List.getElem?_set_ne n2]; exact R.gon, by rw [List.getElem?_set_ne n3]; exact R.pas, by rw [List.getElem?_set_ne n4]; exact R.mks, R.nd, R.pls.kp (.set (by simp))⟩
theorem RunO.setG (R : RunO bs m r pl sp gn pa mk bk s) (g : List (Nat × Nat)) : RunO bs (m.set gn (.lst (g.map srD))) r pl sp gn pa mk bk { s with gone := g } := by
  have nd := R.nd
  simp only [List.nodup_cons, List.mem_cons, not_or, List.not_mem_nil, not_false_eq_true] at nd
  obtain ⟨⟨n1, n2, n3, n4, _⟩, ⟨n5, n6, n7, _⟩, ⟨n8, n9, _⟩, _⟩ := nd
  exact ⟨by rw [List.getElem?_set_ne (Ne.symm n2)]; exact R.ins, by rw [List.getElem?_set_ne (Ne.symm n5)]; exact R.spo, get_set R.gon, by rw [List.getElem?_set_ne n8]; exact R.pas, by rw [List.getElem?_set_ne n9]; exact R.mks, R.nd, R.pls.kp (.set (by simp))⟩
theorem RunO.setS (R : RunO bs m r pl sp gn pa mk bk s) (g : List Int) : RunO bs (m.set sp (.lst (g.map D.int))) r pl sp gn pa mk bk { s with spoken := g } := by
  have nd := R.nd
  simp only [List.nodup_cons, List.mem_cons, not_or, List.not_mem_nil, not_false_eq_true] at nd
  obtain ⟨⟨n1, n2, n3, n4, _⟩, ⟨n5, n6, n7, _⟩, ⟨n8, n9, _⟩, _⟩ := nd
  exact ⟨by rw [List.getElem?_set_ne (Ne.symm n1)]; exact R.ins, get_set R.spo, by rw [List.getElem?_set_ne n5]; exact R.gon, by rw [List.getElem?_set_ne n6]; exact R.pas, by rw [List.getElem?_set_ne n7]; exact R.mks, R.nd, R.pls.kp (.set (by simp))⟩
theorem RunO.setP (R : RunO bs m r pl sp gn pa mk bk s) (g : List Past) : RunO bs (m.set pa (.lst (g.map pastD))) r pl sp gn pa mk bk { s with past := g } := by
  have nd := R.nd
  simp only [List.nodup_cons, List.mem_cons, not_or, List.not_mem_nil, not_false_eq_true] at nd
  obtain ⟨⟨n1, n2, n3, n4, _⟩, ⟨n5, n6, n7, _⟩, ⟨n8, n9, _⟩, ⟨n10, _⟩, _⟩ := nd
  exact ⟨by rw [List.getElem?_set_ne (Ne.symm n3)]; exact R.ins, by rw [List.getElem?_set_ne (Ne.symm n6)]; exact R.spo, by rw [List.getElem?_set_ne (Ne.symm n8)]; exact R.gon, get_set R.pas, by rw [List.getElem?_set_ne n10]; exact R.mks, R.nd, R.pls.kp (.set (by simp))⟩
theorem few_ok {α : Type} {l : List α} (h : l.length ≤ 20) : (l.length + 1 ≤ sizeLine) := Nat.le_trans (Nat.succ_le_succ h) (by exact Nat.le_of_ble_eq_true rfl)
theorem dropL_D (l : List (Nat × Nat)) (h : l ≠ []) : Ab.cutD (l.map srD) none (some (-1)) = l.dropLast.map srD := by
  conv => lhs; rw [← List.dropLast_concat_getLast h]
  rw [List.map_append, List.map_singleton, cut_m1]
theorem w_along (R : RunO bs m r pl sp gn pa mk bk s) (hs : s.stands ≠ []) (hf : s.stands.length ≤ 20) (h1 : (top s).1 < bs.length) (h2 : (top s).2 < (plan (bod bs (top s).1)).tasks.length) {br : Nat} (hb : br ∈ brs (tkAt bs (top s))) (hg : s.gone.length < 2 ^ 24) :
    ∃ m', f_Runner_go_along [.ref r, I br] m = .ok .non m' ∧ RunO bs m' r pl sp gn pa mk bk (along bs s br) ∧ Kp (Sx r sp gn pa mk) m m' ∧ m'.length = m.length := by
  obtain ⟨ps, p, t, c, w, q1, q2, Q⟩ := R.pl_get h1
  let E (x2 x3 x4 x5 : Option D) : Env' := [some (.ref r), some (I br), x2, x3, x4, x5]
  have e1 : eOp dIx (eFld "Runner" "stands" (eVar 0)) (eUn dNeg (eC (.int 1))) (E none none none none) m = .ok (srD (top s)) m := e_op (v_fld rfl R.ins rfl) rfl (v_ixT (top_atI hs))
  have s1 : sAsg (eOp dIx (eFld "Runner" "stands" (eVar 0)) (eUn dNeg (eC (.int 1)))) (gT 2 (gsCons (gN 2) (gsCons (gN 3) (gsNil)))) (E none none none none) m = .nx (E (some (I (top s).1)) (some (I (top s).2)) none none) m := s_asgG e1 rfl
  have hst := start_in bs h2 hb
  let a := (starts (plan (bod bs (top s).1)).tasks).idxOf ((top s).2, br)
  let q := dest (plan (bod bs (top s).1)) ((top s).2, br)
  have e2 : eOp dIxT (eFld "Plan" "ways" (eOp dIx (eFld "Runner" "plans" (eVar 0)) (eVar 2))) (eCall mkTup (aCons (eVar 3) (aCons (eVar 1) (aNil)))) (E (some (I (top s).1)) (some (I (top s).2)) none none) m = .ok (.tup [I a, I q]) m := by
    refine e_op (v_fld (e_op (v_fld rfl R.ins rfl) rfl (v_ixL q1 q2)) Q.ins rfl) (e_tup (a_c rfl (a_c rfl rfl))) ?_
    unfold dIxT
    simp only [Q.wy]
    rw [show keyT (.tup [I (top s).2, I br]) = some [((top s).2 : Int), (br : Int)] from rfl]
    dsimp only
    rw [ways_get _ hst]
  have s2 : sAsg (eOp dIxT (eFld "Plan" "ways" (eOp dIx (eFld "Runner" "plans" (eVar 0)) (eVar 2))) (eCall mkTup (aCons (eVar 3) (aCons (eVar 1) (aNil))))) (gT 2 (gsCons (gN 4) (gsCons (gN 5) (gsNil)))) (E (some (I (top s).1)) (some (I (top s).2)) none none) m = .nx (E (some (I (top s).1)) (some (I (top s).2)) (some (I a)) (some (I q))) m := s_asgG e2 rfl
  have R1 := R.setG (s.gone ++ [((top s).1, a)])
  have s3 : sExp (eMt isL mAppend (eFld "Runner" "gone" (eVar 0)) (aCons (eCall mkTup (aCons (eVar 2) (aCons (eVar 4) (aNil)))) (aNil))) (E (some (I (top s).1)) (some (I (top s).2)) (some (I a)) (some (I q))) m = .nx (E (some (I (top s).1)) (some (I (top s).2)) (some (I a)) (some (I q))) (m.set gn (.lst ((s.gone ++ [((top s).1, a)]).map srD))) := by
    refine s_exp (x := .non) (e_mt (v_fld rfl R.ins rfl) (w_isL R.gon) (a_c (e_tup (a_c rfl (a_c rfl rfl))) rfl) ?_)
    rw [v_append R.gon (by rw [List.length_map]; exact hg), List.map_append]; rfl
  have R2 := R1.setI (s.stands.dropLast ++ [((top s).1, q)]) s.hold
  have s4 : sFldS "Runner" "stands" (eVar 0) (eOp dAdd (eSl (eFld "Runner" "stands" (eVar 0)) (oNone) (oSome (eUn dNeg (eC (.int 1))))) (eCall mkTup (aCons (eCall mkTup (aCons (eVar 2) (aCons (eVar 5) (aNil)))) (aNil)))) (E (some (I (top s).1)) (some (I (top s).2)) (some (I a)) (some (I q))) (m.set gn (.lst ((s.gone ++ [((top s).1, a)]).map srD))) =
      .nx (E (some (I (top s).1)) (some (I (top s).2)) (some (I a)) (some (I q))) ((m.set gn (.lst ((s.gone ++ [((top s).1, a)]).map srD))).set r (.ins "Runner" (runF bk pl sp gn pa mk (s.stands.dropLast ++ [((top s).1, q)]) s.hold))) := by
    have e3 : eSl (eFld "Runner" "stands" (eVar 0)) (oNone) (oSome (eUn dNeg (eC (.int 1)))) (E (some (I (top s).1)) (some (I (top s).2)) (some (I a)) (some (I q))) (m.set gn (.lst ((s.gone ++ [((top s).1, a)]).map srD))) = .ok (stsD s.stands.dropLast) (m.set gn (.lst ((s.gone ++ [((top s).1, a)]).map srD))) := by
      rw [w_sl, v_fld (e := E (some (I (top s).1)) (some (I (top s).2)) (some (I a)) (some (I q))) rfl R1.ins rfl, v_bind]
      show dSl (stsD s.stands) none (some (-1)) _ = _
      unfold stsD
      rw [v_slT, dropL_D _ hs]
    refine s_fldS (e_op e3 (e_tup (a_c (e_tup (a_c rfl (a_c rfl rfl))) rfl)) (v_catT ?_)) rfl R1.ins (by simp [runF]) |>.trans ?_
    · rw [List.length_map, List.length_singleton]
      exact few_ok (by rw [List.length_dropLast]; omega)
    · have e4 : D.tup (s.stands.dropLast.map srD ++ [D.tup [I (top s).1, I q]]) = stsD (s.stands.dropLast ++ [((top s).1, q)]) := by unfold stsD; rw [List.map_append]; rfl
      rw [e4, putF_st]
  refine ⟨_, af_nx (E := E none none none none) rfl (s_seq s1 (s_seq s2 (s_seq s3 s4))), R2, (Kp.set (by simp)).trans (.set (by simp)), by simp⟩
end
end Cl
set_option Elab.async false
set_option linter.all false
set_option maxRecDepth 100000
namespace Cl
open PySem PySem.Spec PyProof.Rows L2 Ab Bk
theorem v_in2 {x a b : Str} {m : Mem} (hx : PyData.strOk x = true) (ha : PyData.strOk a = true) (hb : PyData.strOk b = true) : dIn (.str x) (.tup [.str a, .str b]) m = .ok (.bl (decide (a = x) || decide (b = x))) m := by
  unfold dIn dIn0
  have e1 : toP m DEEP (.tup [.str a, .str b]) = some (.tuple [.str a, .str b]) := rfl
  have e2 : toP m DEEP (.str x) = some (.str x) := rfl
  rw [e1, e2]
  dsimp only
  have s1 : SeqAt.shaped (.str x) = true := canS1 x hx
  have s2 : SeqAt.shaped (.tuple [.str a, .str b]) = true := by
    have ha' := canS1 a ha
    have hb' := canS1 b hb
    simp [SeqAt.shaped, PyData.canLay0, PyData.canLayAll0, PyData.depth, PyData.depthAll] at ha' hb' ⊢
    exact ⟨ha', hb'⟩
  rw [if_pos ⟨s1, s2⟩]
  simp [eqvStr]
section
variable {bs : List (List Stm)} {m : Mem} {r pl sp gn pa mk : Nat} {bk : D} {s : Rs}
theorem w_close {C : Nat} (R : RunO bs m r pl sp gn pa mk bk s) (hs : s.stands ≠ []) (W : Wf bs C s) (hg : s.gone.length < 2 ^ 24) :
    ∃ m', f_Runner_close_routine [.ref r] m = .ok .non m' ∧ RunO bs m' r pl sp gn pa mk bk (closeR bs s) ∧ Kp (Sx r sp gn pa mk) m m' ∧ m'.length = m.length := by
  let E : Env' := [some (.ref r)]
  have e1 : eSl (eFld "Runner" "stands" (eVar 0)) (oNone) (oSome (eUn dNeg (eC (.int 1)))) E m = .ok (stsD s.stands.dropLast) m := by
    rw [w_sl, v_fld (e := E) rfl R.ins rfl, v_bind]
    show dSl (stsD s.stands) none (some (-1)) _ = _
    unfold stsD
    rw [v_slT, dropL_D _ hs]
  have s1 : sFldS "Runner" "stands" (eVar 0) (eSl (eFld "Runner" "stands" (eVar 0)) (oNone) (oSome (eUn dNeg (eC (.int 1))))) E m = .nx E (m.set r (.ins "Runner" (runF bk pl sp gn pa mk s.stands.dropLast s.hold))) := by
    rw [← putF_st bk pl sp gn pa mk s.stands]
    exact s_fldS e1 rfl R.ins (by simp [runF])
  have R1 := R.setI s.stands.dropLast s.hold
  have k1 : Kp (Sx r sp gn pa mk) m (m.set r (.ins "Runner" (runF bk pl sp gn pa mk s.stands.dropLast s.hold))) := .set (by simp)
  have l1 : (m.set r (.ins "Runner" (runF bk pl sp gn pa mk s.stands.dropLast s.hold))).length = m.length := List.length_set
  generalize m.set r (.ins "Runner" (runF bk pl sp gn pa mk s.stands.dropLast s.hold)) = m1 at s1 R1 k1 l1
  have e2 : tTru (eFld "Runner" "stands" (eVar 0)) E m1 = .ok (!(s.stands.dropLast.map srD).isEmpty) m1 := t_tru (v_fld rfl R1.ins rfl) rfl
  unfold closeR
  dsimp only
  by_cases e : s.stands.dropLast = []
  · rw [if_pos (by rw [e]; rfl)]
    exact ⟨m1, af_nx (E := E) rfl (s_seq s1 (s_ifF (by rw [e2, e]; rfl) rfl)), R1, k1, l1⟩
  · rw [if_neg (by simpa using e)]
    have hne : (s.stands.dropLast.map srD).isEmpty = false := by
      cases q : s.stands.dropLast with
      | nil => exact absurd q e
      | cons a b => rfl
    have hlast : top { s with stands := s.stands.dropLast } ∈ s.stands.dropLast := by
      have := stands_top (s := { s with stands := s.stands.dropLast }) e
      have h2 : top { s with stands := s.stands.dropLast } ∈ ({ s with stands := s.stands.dropLast } : Rs).stands := by rw [this]; simp
      exact h2
    have hcall := W.low _ hlast
    obtain ⟨a1, a2⟩ := W.at_ _ ((List.dropLast_sublist _).subset hlast)
    have hb : 0 ∈ brs (tkAt bs (top { s with stands := s.stands.dropLast })) := by
      cases z : tkAt bs (top { s with stands := s.stands.dropLast }) with
      | st s => simp [brs]
      | _ => rw [z] at hcall; cases hcall
    obtain ⟨m2, v2, R2, k2, l2⟩ := w_along R1 e (Nat.le_trans (by show s.stands.dropLast.length ≤ s.stands.length; rw [List.length_dropLast]; omega) W.few) a1 a2 hb hg
    exact ⟨m2, af_nx (E := E) rfl (s_seq s1 (s_ifT (by rw [e2, hne]; rfl) (s_exp (e_meth rfl R1.ins rfl (a_c rfl rfl) v2)))), R2, k1.trans k2, by rw [l2, l1]⟩
theorem w_set_cell (R : RunO bs m r pl sp gn pa mk bk s) {c : Nat} {z : Int} (hc : c < s.hold.length) (hl : s.hold.length < 1000) :
    ∃ m', f_Runner_set_cell [.ref r, I c, .int z] m = .ok .non m' ∧ RunO bs m' r pl sp gn pa mk bk { s with hold := s.hold.set c z } ∧ Kp (Sx r sp gn pa mk) m m' ∧ m'.length = m.length := by
  let E : Env' := [some (.ref r), some (I c), some (.int z)]
  have sz : ∀ n, n < 3000 → n ≤ sizeLine := fun n h => Nat.le_trans (Nat.le_of_lt h) (by exact Nat.le_of_ble_eq_true rfl)
  have e1 : eSl (eFld "Runner" "holding" (eVar 0)) (oNone) (oSome (eVar 1)) E m = .ok (.tup (s.hold.map D.int |>.take c)) m := by
    rw [w_sl, v_fld (e := E) rfl R.ins rfl, v_bind]
    show dSl (smD s.hold) none (some (c : Int)) _ = _
    unfold smD
    rw [v_slT, cut_lo]
  have e2 : eSl (eFld "Runner" "holding" (eVar 0)) (oSome (eOp dAdd (eVar 1) (eC (.int 1)))) (oNone) E m = .ok (.tup (s.hold.map D.int |>.drop (c + 1))) m := by
    rw [w_sl, v_fld (e := E) rfl R.ins rfl, v_bind]
    show dSl (smD s.hold) (some ((c : Int) + 1)) none _ = _
    unfold smD
    have := cut_hi (s.hold.map D.int) (c + 1)
    rw [v_slT, ← this]; rfl
  have e3 : (s.hold.map D.int |>.take c) ++ [.int z] ++ (s.hold.map D.int |>.drop (c + 1)) = (s.hold.set c z).map D.int := by
    rw [List.map_set, List.set_eq_take_append_cons_drop, if_pos (by simpa using hc)]
    simp
  have R1 := R.setI s.stands (s.hold.set c z)
  refine ⟨_, af_nx (E := E) rfl (s_fldS (d := smD (s.hold.set c z)) (e_op (e_op e1 (e_tup (a_c rfl rfl)) (v_catT ?_)) e2 ((v_catT ?_).trans ?_)) rfl R.ins (by simp [runF])), by rw [putF_hd]; exact R1, .set (by simp), by rw [List.length_set]⟩
  · exact sz _ (by simp; omega)
  · exact sz _ (by simp; omega)
  · rw [e3]; rfl
theorem w_step {C : Nat} (R : RunO bs m r pl sp gn pa mk bk s) (W : Wf bs C s) (hw : word bs s = "runs") (hok : ∀ b ∈ bs, okB C bs.length b) (hC : C < 900) (hp : s.past.length < 2 ^ 24 - 1) :
    ∃ m', f_Runner_step [.ref r] m = .ok .non m' ∧ RunO bs m' r pl sp gn pa mk bk (stepR bs s) ∧ Kp (Sx r sp gn pa mk) m m' ∧ m.length ≤ m'.length := by
  obtain ⟨hs, hf⟩ := word_runs bs hw
  obtain ⟨W1, g1, p1⟩ := push_wf bs W
  have ht : top s ∈ s.stands := by rw [stands_top hs]; simp
  obtain ⟨a1, a2⟩ := W.at_ _ ht
  have hbd : bod bs (top s).1 ∈ bs := by
    unfold bod
    rw [List.getD_eq_getElem?_getD, List.getElem?_eq_getElem a1]
    exact List.getElem_mem a1
  have hgl : (push s).gone.length < 2 ^ 24 := by
    have : (push s).past.length = s.past.length + 1 := by simp [push]
    omega
  have hsl : (push s).spoken.length < 2 ^ 24 := by
    have : (push s).past.length = s.past.length + 1 := by simp [push]
    omega
  have hokt := okTk_plan (hok _ hbd) (tkAt bs (top s)) (by rw [tkAt_kat bs a2]; exact List.mem_of_getElem? (kat_tk a2))
  let E (x1 x2 : Option D) : Env' := [some (.ref r), x1, x2]
  have t1 : tVal (eOp dNe (eMeth "Runner" "word" f_Runner_word (eVar 0) aNil) (eC (.str "runs"))) (E none none) m = .ok false m := by
    refine t_v (e_op (e_meth rfl R.ins rfl rfl (w_word R W)) rfl ?_)
    rw [hw]
    unfold dNe
    rw [show toP m DEEP (.str (Str.ofString "runs")) = some (.str (Str.ofString "runs")) from rfl]
    dsimp only
    rw [if_pos ⟨canS1 _ ok_runs, canS1 _ ok_runs⟩, eqvStr]
    simp
  have R1 := R.setP (push s).past
  have s2 : sExp (eMt isL mAppend (eFld "Runner" "past" (eVar 0)) (aCons (eCall mkTup (aCons (eFld "Runner" "stands" (eVar 0)) (aCons (eFld "Runner" "holding" (eVar 0)) (aCons (eCall bLen (aCons (eFld "Runner" "spoken" (eVar 0)) (aNil))) (aCons (eCall bLen (aCons (eFld "Runner" "gone" (eVar 0)) (aNil))) (aNil)))))) (aNil))) (E none none) m =
      .nx (E none none) (m.set pa (.lst ((push s).past.map pastD))) := by
    refine s_exp (x := .non) (e_mt (v_fld rfl R.ins rfl) (w_isL R.pas) (a_c (e_tup (a_c (v_fld rfl R.ins rfl) (a_c (v_fld rfl R.ins rfl) (a_c (e_call (a_c (v_fld rfl R.ins rfl) rfl) (v_lenL R.spo)) (a_c (e_call (a_c (v_fld rfl R.ins rfl) rfl) (v_lenL R.gon)) rfl))))) rfl) ?_)
    rw [v_append R.pas (by rw [List.length_map]; omega)]
    have e : (push s).past.map pastD = s.past.map pastD ++ [.tup [stsD s.stands, smD s.hold, .int ((s.spoken.map D.int).length : Int), .int ((s.gone.map srD).length : Int)]] := by
      show (s.past ++ [(⟨s.stands, s.hold, s.spoken.length, s.gone.length⟩ : Past)]).map pastD = _
      rw [List.map_append, List.map_singleton, List.length_map, List.length_map]; rfl
    rw [e]
  have k1 : Kp (Sx r sp gn pa mk) m (m.set pa (.lst ((push s).past.map pastD))) := .set (by simp)
  have l1 : (m.set pa (.lst ((push s).past.map pastD))).length = m.length := List.length_set
  generalize m.set pa (.lst ((push s).past.map pastD)) = m1 at s2 R1 k1 l1
  replace R1 : RunO bs m1 r pl sp gn pa mk bk (push s) := R1
  have s3 : sAsg (eMeth "Runner" "task" f_Runner_task (eVar 0) aNil) (gN 1) (E none none) m1 = .nx (E (some (tkD (tkAt bs (top s)))) none) m1 := s_asg (e_meth rfl R1.ins rfl rfl (w_task (s := push s) R1 hs a1 a2))
  have s4 : sAsg (eCall f_word_of (aCons (eVar 1) (aNil))) (gN 2) (E (some (tkD (tkAt bs (top s)))) none) m1 = .nx (E (some (tkD (tkAt bs (top s)))) (some (.str (wordTk (tkAt bs (top s)))))) m1 := s_asg (e_call (a_c rfl rfl) (w_word_of _ _))
  unfold stepR
  have etop : top (push s) = top s := rfl
  -- what stands behind
  have fin : ∀ {st : AS}, (∃ m' x1 x2, st (E (some (tkD (tkAt bs (top s)))) (some (.str (wordTk (tkAt bs (top s)))))) m1 = .nx (E x1 x2) m' ∧ RunO bs m' r pl sp gn pa mk bk (doTk bs (push s) (tkAt bs (top s))) ∧ Kp (Sx r sp gn pa mk) m1 m' ∧ m1.length ≤ m'.length) → a_Runner_step = sSeq (sIf (tVal (eOp dNe (eMeth "Runner" "word" f_Runner_word (eVar 0) aNil) (eC (.str "runs")))) (sRaise0 "NotRunning") (sSkip)) (sSeq (sExp (eMt isL mAppend (eFld "Runner" "past" (eVar 0)) (aCons (eCall mkTup (aCons (eFld "Runner" "stands" (eVar 0)) (aCons (eFld "Runner" "holding" (eVar 0)) (aCons (eCall bLen (aCons (eFld "Runner" "spoken" (eVar 0)) (aNil))) (aCons (eCall bLen (aCons (eFld "Runner" "gone" (eVar 0)) (aNil))) (aNil)))))) (aNil)))) (sSeq (sAsg (eMeth "Runner" "task" f_Runner_task (eVar 0) aNil) (gN 1)) (sSeq (sAsg (eCall f_word_of (aCons (eVar 1) (aNil))) (gN 2)) st))) →
      ∃ m', f_Runner_step [.ref r] m = .ok .non m' ∧ RunO bs m' r pl sp gn pa mk bk (doTk bs (push s) (tkAt bs (top s))) ∧ Kp (Sx r sp gn pa mk) m m' ∧ m.length ≤ m'.length := by
    intro st ⟨m', x1, x2, h1, h2, h3, h4⟩ ha
    refine ⟨m', ?_, h2, k1.trans h3, by omega⟩
    show afOf 3 a_Runner_step _ _ = _
    rw [ha]
    exact af_nx (E := E none none) rfl (s_seq (s_ifF t1 rfl) (s_seq s2 (s_seq s3 (s_seq s4 h1))))
  refine fin ?_ rfl
  have wt : ∀ {z : Str}, PyData.strOk z = true → tVal (eOp dEq (eVar 2) (eC (.str z))) (E (some (tkD (tkAt bs (top s)))) (some (.str (wordTk (tkAt bs (top s)))))) m1 = .ok (decide (wordTk (tkAt bs (top s)) = z)) m1 := fun hz => t_v (e_op rfl rfl (v_eqS (ok_wordTk _) hz))
  have wi : tVal (eOp dIn (eVar 2) (eCall mkTup (aCons (eC (.str "less")) (aCons (eC (.str "same")) (aNil))))) (E (some (tkD (tkAt bs (top s)))) (some (.str (wordTk (tkAt bs (top s)))))) m1 = .ok (decide (("less" : Str) = wordTk (tkAt bs (top s))) || decide (("same" : Str) = wordTk (tkAt bs (top s)))) m1 :=
    t_v (e_op rfl (e_tup (a_c rfl (a_c rfl rfl))) (v_in2 (ok_wordTk _) ok_less ok_same))
  have hb0 : brs (tkAt bs (top s)) = [0] → 0 ∈ brs (tkAt bs (top (push s))) := fun h => by rw [etop, h]; simp
  generalize htk : tkAt bs (top s) = tk at *
  have plain : brs tk = [0] → (∃ m', sExp (eMeth "Runner" "go_along" f_Runner_go_along (eVar 0) (aCons (eC (.int 0)) (aNil))) (E (some (tkD tk)) (some (.str (wordTk tk)))) m1 = .nx (E (some (tkD tk)) (some (.str (wordTk tk)))) m' ∧ RunO bs m' r pl sp gn pa mk bk (along bs (push s) 0) ∧ Kp (Sx r sp gn pa mk) m1 m' ∧ m'.length = m1.length) := fun hb => by
    obtain ⟨m2, v2, R2, k2, l2⟩ := w_along R1 hs W.few a1 a2 (br := 0) (by rw [etop, htk, hb]; simp) hgl
    exact ⟨m2, s_exp (e_meth rfl R1.ins rfl (a_c rfl rfl) v2), R2, k2, l2⟩
  cases tk with
  | bg =>
    obtain ⟨m2, v2, R2, k2, l2⟩ := plain rfl
    exact ⟨m2, _, _, s_ifF (by rw [wt ok_end]; rfl) (s_ifF (by rw [wt ok_call]; rfl) (s_ifF (by rw [wi]; rfl) (s_seq (s_ifF (by rw [wt ok_set]; rfl) (s_ifF (by rw [wt ok_say]; rfl) rfl)) v2))), R2, k2, by omega⟩
  | jn =>
    obtain ⟨m2, v2, R2, k2, l2⟩ := plain rfl
    exact ⟨m2, _, _, s_ifF (by rw [wt ok_end]; rfl) (s_ifF (by rw [wt ok_call]; rfl) (s_ifF (by rw [wi]; rfl) (s_seq (s_ifF (by rw [wt ok_set]; rfl) (s_ifF (by rw [wt ok_say]; rfl) rfl)) v2))), R2, k2, by omega⟩
  | en =>
    obtain ⟨m2, v2, R2, k2, l2⟩ := w_close R1 hs W1 hgl
    exact ⟨m2, _, _, s_ifT (by rw [wt ok_end]; rfl) (s_exp (e_meth rfl R1.ins rfl rfl v2)), R2, k2, by omega⟩
  | ts w a b =>
    obtain ⟨m2, v2, p2⟩ := w_test (w := w) R1 hokt.1 hokt.2 hC
    have R2 := R1.pre p2
    obtain ⟨m3, v3, R3, k3, l3⟩ := w_along R2 hs W.few a1 a2 (br := if tst w a b s.hold then 0 else 1) (by rw [etop, htk]; by_cases z : tst w a b s.hold = true <;> simp [brs, z]) hgl
    have e3 : eIf (tVal (eMeth "Runner" "test_holds" f_Runner_test_holds (eVar 0) (aCons (eVar 1) (aNil)))) (eC (.int 0)) (eC (.int 1)) (E (some (tkD (.ts w a b))) (some (.str (wordTk (.ts w a b))))) m1 = .ok (I (if tst w a b s.hold then 0 else 1)) m2 := by
      have t2 : tVal (eMeth "Runner" "test_holds" f_Runner_test_holds (eVar 0) (aCons (eVar 1) (aNil))) (E (some (tkD (.ts w a b))) (some (.str (wordTk (.ts w a b))))) m1 = .ok (tst w a b s.hold) m2 := t_v (e_meth rfl R1.ins rfl (a_c rfl rfl) v2)
      cases z : tst w a b s.hold with
      | true => rw [e_ifT (z ▸ t2)]; rfl
      | false => rw [e_ifF (z ▸ t2)]; rfl
    refine ⟨m3, _, _, s_ifF (by rw [wt ok_end]; cases w <;> rfl) (s_ifF (by rw [wt ok_call]; cases w <;> rfl) (s_ifT (by rw [wi]; cases w <;> rfl) (s_exp (e_meth rfl R1.ins rfl (a_c e3 rfl) v3)))), R3, (Kp.pre p2).trans k3, by have := p2.len; omega⟩
  | st st =>
    cases st with
    | set c z =>
      have hc : c < (push s).hold.length := by show c < s.hold.length; rw [W.hold]; exact hokt.1.1
      have hz := hokt.1.2
      obtain ⟨m2, v2, p2⟩ := w_total R1 (z := z) (fun e => by have := hz.1; rw [e] at this; simp at this) hz.2 (by have := hz.1; omega)
      have R2 := R1.pre p2
      obtain ⟨m3, v3, R3, k3, l3⟩ := w_set_cell R2 (c := c) (z := val z s.hold) hc (by show s.hold.length < 1000; rw [W.hold]; omega)
      obtain ⟨m4, v4, R4, k4, l4⟩ := w_along R3 hs W.few a1 a2 (br := 0) (by show 0 ∈ brs (tkAt bs (top s)); rw [htk]; simp [brs]) hgl
      refine ⟨m4, _, _, s_ifF (by rw [wt ok_end]; rfl) (s_ifF (by rw [wt ok_call]; rfl) (s_ifF (by rw [wi]; rfl) (s_seq (s_ifT (by rw [wt ok_set]; rfl) (s_exp (e_meth rfl R1.ins rfl (a_c (e_op rfl rfl (v_ixT (d := I c) rfl)) (a_c (e_meth rfl R1.ins rfl (a_c (e_op rfl rfl (v_ixT (d := smD z) rfl)) rfl) v2) rfl)) v3))) (s_exp (e_meth rfl R3.ins rfl (a_c rfl rfl) v4))))), R4, (Kp.pre p2).trans (k3.trans k4), by have := p2.len; omega⟩
    | say z =>
      have hz := hokt.1
      obtain ⟨m2, v2, p2⟩ := w_total R1 (z := z) (fun e => by have := hz.1; rw [e] at this; simp at this) hz.2 (by have := hz.1; omega)
      have R2 := R1.pre p2
      have R3 := R2.setS ((push s).spoken ++ [val z s.hold])
      obtain ⟨m4, v4, R4, k4, l4⟩ := w_along R3 hs W.few a1 a2 (br := 0) (by show 0 ∈ brs (tkAt bs (top s)); rw [htk]; simp [brs]) hgl
      have e3 : mAppend (.ref sp) [.int (val z s.hold)] m2 = .ok .non (m2.set sp (.lst (((push s).spoken ++ [val z s.hold]).map D.int))) := by
        rw [v_append R2.spo (by rw [List.length_map]; exact hsl), List.map_append]; rfl
      refine ⟨m4, _, _, s_ifF (by rw [wt ok_end]; rfl) (s_ifF (by rw [wt ok_call]; rfl) (s_ifF (by rw [wi]; rfl) (s_seq (s_ifF (by rw [wt ok_set]; rfl) (s_ifT (by rw [wt ok_say]; rfl) (s_exp (e_mt (v_fld rfl R1.ins rfl) (w_isL R1.spo) (a_c (e_meth rfl R1.ins rfl (a_c (e_op rfl rfl (v_ixT (d := smD z) rfl)) rfl) v2) rfl) e3)))) (s_exp (e_meth rfl R3.ins rfl (a_c rfl rfl) v4))))), R4, (Kp.pre p2).trans ((Kp.set (by simp)).trans k4), by have := p2.len; rw [l4, List.length_set]; omega⟩
    | call k =>
      have R2 := R1.setI ((push s).stands ++ [(k, 0)]) (push s).hold
      refine ⟨_, _, _, s_ifF (by rw [wt ok_end]; rfl) (s_ifT (by rw [wt ok_call]; rfl) (s_fldS (d := stsD (s.stands ++ [(k, 0)])) (e_op (v_fld rfl R1.ins rfl) (e_tup (a_c (e_tup (a_c (e_op rfl rfl (v_ixT (d := I k) rfl)) (a_c rfl rfl))) rfl)) ((v_catT ?_).trans ?_)) rfl R1.ins (by simp [runF]))), by rw [putF_st]; exact R2, .set (by simp), by rw [List.length_set]; exact Nat.le_refl _⟩
      · rw [List.length_map, List.length_singleton]; exact few_ok W.few
      · unfold stsD
        rw [List.map_append]; rfl
    | ifs w a b x y => exact hokt.2.elim
    | whl w a b x => exact hokt.2.elim
end
end Cl
set_option Elab.async false
set_option linter.all false
set_option maxRecDepth 100000
namespace Bk
/-- steps at most so often, while it runs and up to the first break: how many, and what then -/
def goB (bs : List (List Stm)) : Nat → Rs → Nat × Rs
  | 0, s => (0, s)
  | n + 1, s => if word bs s = "runs" then
      let s1 := stepR bs s
      if s1.stands ≠ [] ∧ [((top s1).1 : Int), ((top s1).2 : Int)] ∈ s1.marks then (1, s1) else
        let r := goB bs n s1
        (1 + r.1, r.2)
    else (0, s)
theorem doTk_same (bs : List (List Stm)) (s : Rs) (t : Tk) : (doTk bs s t).past = s.past ∧ (doTk bs s t).marks = s.marks := by
  cases t with
  | en => unfold doTk closeR; dsimp only; split <;> exact ⟨rfl, rfl⟩
  | st st => cases st <;> exact ⟨rfl, rfl⟩
  | _ => exact ⟨rfl, rfl⟩
theorem step_past (bs : List (List Stm)) (s : Rs) : (stepR bs s).past.length = s.past.length + 1 ∧ (stepR bs s).marks = s.marks := by
  unfold stepR
  rw [(doTk_same bs (push s) _).1, (doTk_same bs (push s) _).2]
  exact ⟨by simp [push], rfl⟩
theorem step_wf {bs : List (List Stm)} {C : Nat} {s : Rs} (hw : word bs s = "runs") (W : Wf bs C s) (hok : ∀ b ∈ bs, okB C bs.length b) : Wf bs C (stepR bs s) :=
  (step_ok bs hw W (c := ⟨s.hold, s.spoken, stk bs s.stands.reverse, s.stands.length⟩) ⟨rfl, rfl, rfl, rfl⟩ hok).1
theorem goB_none (bs : List (List Stm)) : ∀ (n : Nat) (s : Rs), s.marks = [] → (goB bs n s).2 = goR bs n s
  | 0, s, _ => rfl
  | n + 1, s, h => by
    unfold goB goR
    by_cases e : word bs s = "runs"
    · rw [if_pos e, if_pos e]
      dsimp only
      have h2 : (stepR bs s).marks = [] := by rw [(step_past bs s).2, h]
      rw [if_neg (by rw [h2]; simp)]
      exact goB_none bs n _ h2
    · rw [if_neg e, if_neg e]
end Bk
namespace Cl
open PySem PySem.Spec PyProof.Rows L2 Ab Bk
theorem lt_I (a b : Nat) (m : Mem) : dLt (I a) (I b) m = .ok (.bl (decide (a < b))) m := by
  show dCmp _ (.int (a : Int)) (.int (b : Int)) m = _
  rw [v_cmp]
  congr 2
  exact decide_eq_decide.mpr (by omega)
theorem whileT {c : AT} {b : AS} {n : Nat} {e e2 : Env'} {m m1 m2 : Mem} {o : O} (h1 : c e m = .ok true m1) (h2 : b e m1 = .nx e2 m2) (h3 : whileN c b n e2 m2 = o) : whileN c b (n + 1) e m = o := by
  show (c e m).o e _ = o
  rw [h1, v_o, if_pos rfl, h2]
  exact h3
theorem whileB {c : AT} {b : AS} {n : Nat} {e e2 : Env'} {m m1 m2 : Mem} (h1 : c e m = .ok true m1) (h2 : b e m1 = .bk e2 m2) : whileN c b (n + 1) e m = .nx e2 m2 := by
  show (c e m).o e _ = _
  rw [h1, v_o, if_pos rfl, h2]
theorem whileF {c : AT} {b : AS} {n : Nat} {e : Env'} {m m1 : Mem} (h1 : c e m = .ok false m1) : whileN c b (n + 1) e m = .nx e m1 := by
  show (c e m).o e _ = _
  rw [h1, v_o, if_neg Bool.false_ne_true]
section
variable {bs : List (List Stm)} {r pl sp gn pa mk : Nat} {bk : D}
noncomputable def cGo : AT := tAn (tVal (eOp dLt (eVar 2) (eVar 1))) (tVal (eOp dEq (eMeth "Runner" "word" f_Runner_word (eVar 0) aNil) (eC (.str "runs"))))
noncomputable def bGo : AS := sSeq (sExp (eMeth "Runner" "step" f_Runner_step (eVar 0) aNil))
    (sSeq (sAug 2 (fun i j => i + j) (eC (.int 1)))
    (sIf (tAn (tTru (eFld "Runner" "stands" (eVar 0))) (tVal (eOp dInT (eOp dIx (eFld "Runner" "stands" (eVar 0)) (eUn dNeg (eC (.int 1)))) (eFld "Runner" "marks" (eVar 0)))))
    (sBrk)
    (sSkip)))
theorem valT_marks (l : List (List Int)) (k : List Int) : (valT (l.map fun k => (k, D.bl true)) k).isSome = decide (k ∈ l) := by
  induction l with
  | nil => rfl
  | cons x l ih =>
    unfold valT at ih ⊢
    rw [List.map_cons]
    by_cases e : x = k
    · subst e; simp
    · rw [List.find?_cons_of_neg (by simpa using e), ih]
      simp [Ne.symm e]
theorem str_word (s : Rs) : Str.ofString (word bs s) = Str.ofString "runs" ↔ word bs s = "runs" := by
  unfold word
  split
  · exact ⟨fun h => absurd h (by decide), fun h => absurd h (by decide)⟩
  · split
    · exact ⟨fun h => absurd h (by decide), fun h => absurd h (by decide)⟩
    · exact ⟨fun _ => rfl, fun _ => rfl⟩
theorem ok_word' (s : Rs) : PyData.strOk (Str.ofString (word bs s)) = true := by
  unfold word
  split
  · exact ok_over
  · split
    · exact ok_fault
    · exact ok_runs
theorem w_go_loop {C : Nat} (hok : ∀ b ∈ bs, okB C bs.length b) (hC : C < 900) : ∀ (n dn : Nat) (s : Rs) (m : Mem), RunO bs m r pl sp gn pa mk bk s → Wf bs C s → s.past.length + n < 2 ^ 24 - 2 →
    ∃ k m', whileN cGo bGo k [some (.ref r), some (I (dn + n)), some (I dn)] m = .nx [some (.ref r), some (I (dn + n)), some (I (dn + (goB bs n s).1))] m' ∧ RunO bs m' r pl sp gn pa mk bk (goB bs n s).2 ∧ Wf bs C (goB bs n s).2 ∧ Kp (Sx r sp gn pa mk) m m' ∧ m.length ≤ m'.length := by
  intro n
  induction n with
  | zero =>
    intro dn s m R W hp
    exact ⟨1, m, whileF (t_anF (t_v (e_op rfl rfl (by rw [lt_I, decide_eq_false (by omega)])))), R, W, .refl, Nat.le_refl _⟩
  | succ n ih =>
    intro dn s m R W hp
    have t1 : tVal (eOp dLt (eVar 2) (eVar 1)) [some (.ref r), some (I (dn + (n + 1))), some (I dn)] m = .ok true m := t_v (e_op rfl rfl (by rw [lt_I, decide_eq_true (by omega)]))
    have t2 : tVal (eOp dEq (eMeth "Runner" "word" f_Runner_word (eVar 0) aNil) (eC (.str "runs"))) [some (.ref r), some (I (dn + (n + 1))), some (I dn)] m = .ok (decide (word bs s = "runs")) m := by
      refine t_v (e_op (e_meth rfl R.ins rfl rfl (w_word R W)) rfl ?_)
      rw [v_eqS (ok_word' s) ok_runs]
      congr 2
      exact decide_eq_decide.mpr (str_word s)
    unfold goB
    by_cases hw : word bs s = "runs"
    · rw [if_pos hw]
      dsimp only
      have t3 : cGo [some (.ref r), some (I (dn + (n + 1))), some (I dn)] m = .ok true m := t_anT t1 (by rw [t2, hw]; rfl)
      obtain ⟨m1, v1, R1, k1, l1⟩ := w_step R W hw hok hC (by omega)
      have W1 := step_wf hw W hok
      obtain ⟨q1, q2⟩ := step_past bs s
      have s1 : sExp (eMeth "Runner" "step" f_Runner_step (eVar 0) aNil) [some (.ref r), some (I (dn + (n + 1))), some (I dn)] m = .nx [some (.ref r), some (I (dn + (n + 1))), some (I dn)] m1 := s_exp (e_meth rfl R.ins rfl rfl v1)
      have s2 : sAug 2 (fun i j => i + j) (eC (.int 1)) [some (.ref r), some (I (dn + (n + 1))), some (I dn)] m1 = .nx [some (.ref r), some (I (dn + (n + 1))), some (I (dn + 1))] m1 := rfl
      have t4 : tTru (eFld "Runner" "stands" (eVar 0)) [some (.ref r), some (I (dn + (n + 1))), some (I (dn + 1))] m1 = .ok (!((stepR bs s).stands.map srD).isEmpty) m1 := t_tru (v_fld rfl R1.ins rfl) rfl
      have t6 : tAn (tTru (eFld "Runner" "stands" (eVar 0))) (tVal (eOp dInT (eOp dIx (eFld "Runner" "stands" (eVar 0)) (eUn dNeg (eC (.int 1)))) (eFld "Runner" "marks" (eVar 0)))) [some (.ref r), some (I (dn + (n + 1))), some (I (dn + 1))] m1 = .ok (decide ((stepR bs s).stands ≠ [] ∧ [((top (stepR bs s)).1 : Int), ((top (stepR bs s)).2 : Int)] ∈ (stepR bs s).marks)) m1 := by
        by_cases hs : (stepR bs s).stands = []
        · rw [decide_eq_false (fun z => z.1 hs)]
          exact t_anF (by rw [t4, hs]; rfl)
        · have hne : ((stepR bs s).stands.map srD).isEmpty = false := by
            cases q : (stepR bs s).stands with
            | nil => exact absurd q hs
            | cons a b => rfl
          refine t_anT (by rw [t4, hne]; rfl) (t_v (e_op (e_op (v_fld rfl R1.ins rfl) rfl (v_ixT (top_atI hs))) (v_fld rfl R1.ins rfl) ?_))
          unfold dInT dInT0
          simp only [R1.mks]
          rw [show keyT (srD (top (stepR bs s))) = some [((top (stepR bs s)).1 : Int), ((top (stepR bs s)).2 : Int)] from rfl]
          dsimp only
          rw [valT_marks, Bool.false_xor]
          congr 2
          exact decide_eq_decide.mpr ⟨fun h => ⟨hs, h⟩, fun h => h.2⟩
      by_cases hb : (stepR bs s).stands ≠ [] ∧ [((top (stepR bs s)).1 : Int), ((top (stepR bs s)).2 : Int)] ∈ (stepR bs s).marks
      · rw [if_pos hb]
        exact ⟨1, m1, whileB t3 (s_seq s1 (s_seq s2 (s_ifT (by rw [t6, decide_eq_true hb]) rfl))), R1, W1, k1, l1⟩
      · rw [if_neg hb]
        obtain ⟨k, m2, v2, R2, W2, k2, l2⟩ := ih (dn + 1) (stepR bs s) m1 R1 W1 (by rw [q1]; omega)
        have e1 : dn + 1 + n = dn + (n + 1) := by omega
        rw [e1] at v2
        refine ⟨k + 1, m2, whileT t3 (s_seq s1 (s_seq s2 (s_ifF (by rw [t6, decide_eq_false hb]) rfl))) ?_, R2, W2, k1.trans k2, by omega⟩
        rw [v2, Nat.add_assoc]
    · rw [if_neg hw]
      exact ⟨1, m, whileF (t_anT t1 (by rw [t2, decide_eq_false hw])), R, W, .refl, Nat.le_refl _⟩
theorem w_btw {d : Int} {lo hi : Int} {m : Mem} : f_is_between [.int d, .int lo, .int hi] m = .ok (.bl (decide (lo ≤ d) && decide (d ≤ hi))) m := by
  have e1 : f_is_whole [.int d] m = .ok (.bl true) m := by
    unfold f_is_whole afOf a_is_whole
    simp
  unfold f_is_between afOf a_is_between
  simp [e1]
  by_cases h : lo ≤ d <;> simp [h]
theorem w_go {C : Nat} {m : Mem} {s : Rs} (hok : ∀ b ∈ bs, okB C bs.length b) (hC : C < 900) (R : RunO bs m r pl sp gn pa mk bk s) (W : Wf bs C s) {n : Nat} (hn : n ≤ 5000) (hp : s.past.length < 2 ^ 23) :
    ∃ m', f_Runner_go [.ref r, I n] m = .ok (I (goB bs n s).1) m' ∧ RunO bs m' r pl sp gn pa mk bk (goB bs n s).2 ∧ Wf bs C (goB bs n s).2 ∧ Kp (Sx r sp gn pa mk) m m' ∧ m.length ≤ m'.length := by
  obtain ⟨k, m', v, R', W', k', l'⟩ := w_go_loop hok hC n 0 s m R W (by omega)
  refine ⟨m', ?_, R', W', k', l'⟩
  rw [Nat.zero_add, Nat.zero_add] at v
  have t1 : tNt (tVal (eCall f_is_between (aCons (eVar 1) (aCons (eC (.int 0)) (aCons (eC (.int 5000)) (aNil)))))) [some (.ref r), some (I n), none] m = .ok false m := by
    refine t_nt (b := true) (t_v (e_call (a_c rfl (a_c rfl (a_c rfl rfl))) ?_))
    rw [show f_is_between [I n, .int 0, .int 5000] m = _ from w_btw]
    congr 2
    simp
    omega
  exact af_rt (E := [some (.ref r), some (I n), none]) rfl (s_seq (s_ifF t1 rfl) (s_seq (s_asg rfl) (s_seq (show sWhile cGo bGo _ m = _ from sWhile_of v (fun z => by cases z)) (s_ret rfl))))
end
end Cl
set_option Elab.async false
set_option linter.all false
set_option maxRecDepth 100000
namespace Cl
open PySem PySem.Spec PyProof.Rows L2 Ab Bk
theorem s_fldN {c f : Str} {v : AE} {e : Env'} {M X : Mem} {r : Nat} {fs : List (Str × D)} {d : D} (hr : r < M.length) (h0 : e[0]? = some (some (.ref r))) (hv : v e (M.set r (.ins c fs)) = .ok d (M.set r (.ins c fs) ++ X)) (hl : fs.length < 1000) :
    sFldS c f (eVar 0) v e (M.set r (.ins c fs)) = .nx e ((M ++ X).set r (.ins c (putFD f d fs))) := by
  have g : (M.set r (.ins c fs) ++ X)[r]? = some (.ins c fs) := by
    rw [List.getElem?_append_left (by simpa using hr), List.getElem?_set_self hr]
  rw [s_fldS hv (v_var h0) g hl]
  congr 1
  rw [List.set_append_left _ _ (by simpa using hr), List.set_set, List.set_append_left _ _ hr]
theorem fn_is_whole (i : Int) : Fn f_is_whole [.int i] (.bl true) := fun m => ⟨m, by
  unfold f_is_whole afOf a_is_whole
  simp, .refl⟩
theorem fn_are_whole (ns : List Int) (hl : ns.length < 2 ^ 24) : Fn f_are_whole [.tup (ns.map D.int)] (.bl true) := by
  refine fn_of (sr_ret ?_)
  have h1 : EvL [some (.tup (ns.map D.int)), none] (eLc (iE (eVar 0)) (gN 1) (tYesA) (eCall f_is_whole (aCons (eVar 1) (aNil))) [1]) (ns.map fun _ => D.bl true) :=
    ev_lc0 D.int ns (fun _ => .bl true) (ei_tup (ev_v 0)) hl fun n hn => ⟨[some (.tup (ns.map D.int)), some (.int n)], fun m => rfl, ev_fn (ea_c (ev_v 1) ea_nil) (fn_is_whole n)⟩
  have h2 := ev_all (bs := ns.map fun _ => true) (by rw [List.map_map]; exact h1)
  have h3 : (ns.map fun _ => true).all id = true := by simp
  rw [h3] at h2
  exact h2
theorem w_is_rowT {ds : List D} {m : Mem} {k : Nat} : f_is_row [.tup ds, I k] m = .ok (.bl (decide (ds.length = k))) m := by
  unfold f_is_row afOf a_is_row
  simp [I, w_eqI]
  omega
def bookF (C : Nat) (bs : List (List Stm)) : List (Str × D) := [("cells", I C), ("routines", .tup (bs.map fun b => .tup (bdD b)))]
/-- plans of some routines, above k -/
def Made (m : Mem) (k : Nat) (ps : List Nat) (bs : List (List Stm)) : Prop := ps.length = bs.length ∧ ∀ (i p : Nat) (b : List Stm), ps[i]? = some p → bs[i]? = some b → ∃ t c w, PlanO m p (plan b) t c w ∧ k < p ∧ k < t ∧ k < w ∧ p < m.length ∧ t < m.length ∧ w < m.length
theorem Made.mono {m m' : Mem} {k : Nat} {ps : List Nat} {bs : List (List Stm)} (h : Made m k ps bs) (hk : ∀ i c, k < i → m[i]? = some c → m'[i]? = some c) : Made m' k ps bs := by
  refine ⟨h.1, fun i p b h1 h2 => ?_⟩
  obtain ⟨t, c, w, Q, q1, q2, q3, _⟩ := h.2 i p b h1 h2
  have g : ∀ {i : Nat} {c : Cell}, m'[i]? = some c → i < m'.length := fun h => (List.getElem?_eq_some_iff.mp h).1
  have a1 := hk _ _ q1 Q.ins
  have a2 := hk _ _ q2 Q.tk
  have a3 := hk _ _ q3 Q.wy
  exact ⟨t, c, w, ⟨a1, a2, a3⟩, q1, q2, q3, g a1, g a2, g a3⟩
theorem w_plans {m : Mem} {r b : Nat} {C : Nat} {bs : List (List Stm)} {x2 x3 : Option D} (hb : m[b]? = some (.ins "Book" (bookF C bs))) (hok : ∀ b ∈ bs, dpB b ≤ 8 ∧ szB b ≤ 38) (hl : bs.length < 1000) :
    ∃ ps m', eLc (iE (eFld "Book" "routines" (eVar 1))) (gN 3) (tYesA) (eMk "Plan" f_Plan_init (aCons (eVar 3) (aNil))) [3] [some (.ref r), some (.ref b), x2, x3] m = .ok (.ref m.length) m' ∧ Pre m m' ∧ m'[m.length]? = some (.lst (ps.map D.ref)) ∧ Made m' m.length ps bs := by
  let E (x3 : Option D) : Env' := [some (.ref r), some (.ref b), x2, x3]
  have hit : iE (eFld "Book" "routines" (eVar 1)) (E x3) m = .ok (bs.map fun b => .tup (bdD b), []) m := by
    rw [w_iE, v_fld (e := E x3) rfl hb rfl, v_bind]; rfl
  obtain ⟨acc, m', v1, hI, hk, hlen⟩ := lc_inv (tg := gN 3) (tt := tYesA) (el := eMk "Plan" f_Plan_init (aCons (eVar 3) (aNil))) (vs := [3])
    (fun rest acc mm => ∃ (done todo : List (List Stm)) (ps : List Nat), bs = done ++ todo ∧ rest = todo.map (fun b => D.tup (bdD b)) ∧ acc = ps.map D.ref ∧ Pre m mm ∧ m.length < mm.length ∧ Made mm m.length ps done)
    hit (by rw [List.length_map]; omega)
    ⟨[], bs, [], rfl, rfl, rfl, .add, by simp, rfl, fun i p b h _ => by simp at h⟩
    (fun d rest acc mm ⟨done, todo, ps, e1, e2, e3, p1, l1, M1⟩ hk => by
      refine ⟨gd_nil, ?_⟩
      cases todo with
      | nil => cases e2
      | cons b0 todo =>
        rw [List.map_cons] at e2
        obtain ⟨rfl, rfl⟩ := List.cons.inj e2
        have hb0 : b0 ∈ bs := by rw [e1]; simp
        obtain ⟨mm2, t, c, w, v2, Q, a1, a2, bl, l2, _⟩ := w_plan_init (m := mm ++ [.ins "Plan" []]) (n := mm.length) (b := b0) new_get (hok b0 hb0).1 (hok b0 hb0).2
        rw [List.length_append, List.length_singleton] at l2
        have hkeep : ∀ i cc, i < mm.length → mm[i]? = some cc → mm2[i]? = some cc := fun i cc hi e => bl i cc hi (Pre.add _ _ e)
        have lt : ∀ {i : Nat} {cc : Cell}, mm[i]? = some cc → i < mm.length := fun h => (List.getElem?_eq_some_iff.mp h).1
        refine ⟨E (some (.tup (bdD b0))), .ref mm.length, mm2, rfl, rfl, e_mk (a_c rfl rfl) v2, hkeep _ _ (lt hk) hk, done ++ [b0], todo, ps ++ [mm.length], by rw [e1]; simp, rfl, by rw [e3]; simp, ?_, by rw [List.length_set]; omega, ?_⟩
        · exact fun i cc e => by
            have hi : i < m.length := (List.getElem?_eq_some_iff.mp e).1
            rw [List.getElem?_set_ne (by omega)]
            exact hkeep i cc (lt (p1 i cc e)) (p1 i cc e)
        · have g2 : ∀ {i : Nat} {cc : Cell}, mm2[i]? = some cc → i < mm2.length := fun h => (List.getElem?_eq_some_iff.mp h).1
          have M2 : Made (mm2.set m.length (.lst (acc ++ [.ref mm.length]))) m.length ps done := M1.mono fun i cc hi e => by
            rw [List.getElem?_set_ne (by omega)]
            exact hkeep i cc (lt e) e
          refine ⟨by rw [List.length_append, List.length_append, M1.1]; rfl, fun i p b h1 h2 => ?_⟩
          rcases app_get h1 with h1 | ⟨rfl, rfl⟩
          · have hi : i < done.length := by rw [← M1.1]; exact (List.getElem?_eq_some_iff.mp h1).1
            rw [List.getElem?_append_left hi] at h2
            exact M2.2 i p b h1 h2
          · have e4 : b = b0 := by
              rw [M1.1, List.getElem?_append_right (Nat.le_refl _)] at h2
              simpa using h2.symm
            subst e4
            refine ⟨t, c, w, ⟨?_, ?_, ?_⟩, l1, by omega, by omega, ?_, ?_, ?_⟩
            · rw [List.getElem?_set_ne (by omega)]; exact Q.ins
            · rw [List.getElem?_set_ne (by omega)]; exact Q.tk
            · rw [List.getElem?_set_ne (by omega)]; exact Q.wy
            · rw [List.length_set]; exact g2 Q.ins
            · rw [List.length_set]; exact g2 Q.tk
            · rw [List.length_set]; exact g2 Q.wy)
    (fun _ _ _ => gd_nil)
  obtain ⟨done, todo, ps, e1, e2, e3, p1, l1, M1⟩ := hI
  have e4 : todo = [] := by
    cases todo with
    | nil => rfl
    | cons a b => cases e2
  rw [e4, List.append_nil] at e1
  subst e1
  exact ⟨ps, m', v1, p1, by rw [hk, e3], M1⟩
def start0 (begins : List Int) : Rs := ⟨[(0, 0)], begins, [], [], [], []⟩
theorem w_runner_init {m : Mem} {r b : Nat} {C : Nat} {bs : List (List Stm)} {begins : List Int} (hr : m[r]? = some (.ins "Runner" [])) (hb : m[b]? = some (.ins "Book" (bookF C bs))) (hok : ∀ b ∈ bs, dpB b ≤ 8 ∧ szB b ≤ 38) (hl : bs.length < 1000) (hC : begins.length = C) (hC2 : C < 1000) :
    ∃ m' pl sp gn pa mk, f_Runner_init [.ref r, .ref b, smD begins] m = .ok .non m' ∧ RunO bs m' r pl sp gn pa mk (.ref b) (start0 begins) ∧ Kp [r] m m' ∧ m.length ≤ m'.length ∧ (∀ x ∈ [sp, gn, pa, mk], m.length ≤ x) := by
  have hne : b ≠ r := fun z => by
    subst z
    rw [hr] at hb
    have := Option.some.inj hb
    injection this with h1 h2
    cases h2
  have hrl : r < m.length := (List.getElem?_eq_some_iff.mp hr).1
  have hbl : b < m.length := (List.getElem?_eq_some_iff.mp hb).1
  let E (x3 : Option D) : Env' := [some (.ref r), some (.ref b), some (smD begins), x3]
  obtain ⟨ma, va, pa0⟩ := fn_are_whole begins (by omega) m
  have t1 : tOrr (tNt (tVal (eCall f_is_row (aCons (eVar 2) (aCons (eFld "Book" "cells" (eVar 1)) (aNil)))))) (tNt (tVal (eCall f_are_whole (aCons (eVar 2) (aNil))))) (E none) m = .ok false ma := by
    refine t_orF (t_nt (b := true) (t_v (e_call (a_c rfl (a_c (v_fld rfl hb rfl) rfl)) ?_))) (t_nt (b := true) (t_v (e_call (a_c rfl rfl) va)))
    show f_is_row [.tup (begins.map D.int), I C] m = _
    rw [w_is_rowT, List.length_map, hC]; simp
  have hra := pa0 _ _ hr
  have hba := pa0 _ _ hb
  have hla := pa0.len
  -- book
  have s0 : ma = ma.set r (.ins "Runner" []) := (set_same hra).symm
  have hrla : r < ma.length := by omega
  have s1 : sFldS "Runner" "book" (eVar 0) (eVar 1) (E none) ma = .nx (E none) (ma.set r (.ins "Runner" [("book", .ref b)])) := by
    conv => lhs; rw [s0]
    have := s_fldN (c := "Runner") (f := "book") (v := eVar 1) (e := E none) (M := ma) (X := []) (r := r) (fs := []) (d := .ref b) hrla rfl (by rw [List.append_nil]; rfl) (by simp)
    rw [this, List.append_nil]; rfl
  -- plans
  have hb1 : (ma.set r (.ins "Runner" [("book", .ref b)]))[b]? = some (.ins "Book" (bookF C bs)) := by rw [List.getElem?_set_ne (Ne.symm hne)]; exact hba
  obtain ⟨ps, mp, vp, pp, hps, hM⟩ := w_plans (r := r) (x2 := some (smD begins)) (x3 := none) hb1 hok hl
  have lp := pp.len
  rw [List.length_set] at lp hps hM vp
  have hrp : mp[r]? = some (.ins "Runner" [("book", .ref b)]) := pp _ _ (get_set hra)
  have hrlp : r < mp.length := by omega
  have s2 : sFldS "Runner" "plans" (eVar 0) (eLc (iE (eFld "Book" "routines" (eVar 1))) (gN 3) (tYesA) (eMk "Plan" f_Plan_init (aCons (eVar 3) (aNil))) [3]) (E none) (ma.set r (.ins "Runner" [("book", .ref b)])) = .nx (E none) (mp.set r (.ins "Runner" [("book", .ref b), ("plans", .ref ma.length)])) :=
    s_fldS vp rfl hrp (by simp)
  let F2 : List (Str × D) := [("book", .ref b), ("plans", .ref ma.length)]
  have s3 : sFldS "Runner" "stands" (eVar 0) (eCall mkTup (aCons (eCall mkTup (aCons (eC (.int 0)) (aCons (eC (.int 0)) (aNil)))) (aNil))) (E none) (mp.set r (.ins "Runner" F2)) = .nx (E none) (mp.set r (.ins "Runner" (F2 ++ [(("stands" : Str), stsD [(0, 0)])]))) := by
    have := s_fldN (c := "Runner") (f := "stands") (v := eCall mkTup (aCons (eCall mkTup (aCons (eC (.int 0)) (aCons (eC (.int 0)) (aNil)))) (aNil))) (e := E none) (M := mp) (X := []) (r := r) (fs := F2) (d := stsD [(0, 0)]) hrlp rfl (by rw [List.append_nil]; exact e_tup (a_c (e_tup (a_c rfl (a_c rfl rfl))) rfl)) (by simp [F2])
    rw [this, List.append_nil]; rfl
  have s4 : sFldS "Runner" "holding" (eVar 0) (eCall bTuple (aCons (eVar 2) (aNil))) (E none) (mp.set r (.ins "Runner" (F2 ++ [(("stands" : Str), stsD [(0, 0)])]))) = .nx (E none) (mp.set r (.ins "Runner" (F2 ++ [(("stands" : Str), stsD [(0, 0)]), (("holding" : Str), smD begins)]))) := by
    have := s_fldN (c := "Runner") (f := "holding") (v := eCall bTuple (aCons (eVar 2) (aNil))) (e := E none) (M := mp) (X := []) (r := r) (fs := F2 ++ [(("stands" : Str), stsD [(0, 0)])]) (d := smD begins) hrlp rfl (by rw [List.append_nil]; exact e_call (a_c rfl rfl) rfl) (by simp [F2])
    rw [this, List.append_nil]; rfl
  have alloc : ∀ (X : Mem) (fs : List (Str × D)), eCall mkLst aNil (E none) ((mp ++ X).set r (.ins "Runner" fs)) = .ok (.ref (mp.length + X.length)) ((mp ++ X).set r (.ins "Runner" fs) ++ [Cell.lst []]) := fun X fs => by
    have := e_lst (e := E none) (aa := aNil) (ds := []) (m := (mp ++ X).set r (.ins "Runner" fs)) rfl
    rw [this, List.length_set, List.length_append]
  have hrX : ∀ X : Mem, r < (mp ++ X).length := fun X => by rw [List.length_append]; omega
  let F4 : List (Str × D) := F2 ++ [(("stands" : Str), stsD [(0, 0)]), (("holding" : Str), smD begins)]
  have s5 : sFldS "Runner" "spoken" (eVar 0) (eCall mkLst (aNil)) (E none) (mp.set r (.ins "Runner" F4)) = .nx (E none) ((mp ++ [Cell.lst []]).set r (.ins "Runner" (F4 ++ [(("spoken" : Str), D.ref mp.length)]))) := by
    have := s_fldN (c := "Runner") (f := "spoken") (v := eCall mkLst aNil) (e := E none) (M := mp ++ []) (X := [Cell.lst []]) (r := r) (fs := F4) (d := .ref mp.length) (hrX []) rfl (alloc [] F4) (by simp [F4, F2])
    rw [List.append_nil] at this
    rw [this]; rfl
  have s6 : sFldS "Runner" "gone" (eVar 0) (eCall mkLst (aNil)) (E none) ((mp ++ [Cell.lst []]).set r (.ins "Runner" (F4 ++ [(("spoken" : Str), D.ref mp.length)]))) = .nx (E none) ((mp ++ [Cell.lst [], Cell.lst []]).set r (.ins "Runner" (F4 ++ [(("spoken" : Str), D.ref mp.length), (("gone" : Str), D.ref (mp.length + 1))]))) := by
    have := s_fldN (c := "Runner") (f := "gone") (v := eCall mkLst aNil) (e := E none) (M := mp ++ [Cell.lst []]) (X := [Cell.lst []]) (r := r) (fs := F4 ++ [(("spoken" : Str), D.ref mp.length)]) (d := .ref (mp.length + 1)) (hrX _) rfl (alloc [Cell.lst []] _) (by simp [F4, F2])
    rw [this, List.append_assoc]; rfl
  have s7 : sFldS "Runner" "past" (eVar 0) (eCall mkLst (aNil)) (E none) ((mp ++ [Cell.lst [], Cell.lst []]).set r (.ins "Runner" (F4 ++ [(("spoken" : Str), D.ref mp.length), (("gone" : Str), D.ref (mp.length + 1))]))) = .nx (E none) ((mp ++ [Cell.lst [], Cell.lst [], Cell.lst []]).set r (.ins "Runner" (F4 ++ [(("spoken" : Str), D.ref mp.length), (("gone" : Str), D.ref (mp.length + 1)), (("past" : Str), D.ref (mp.length + 2))]))) := by
    have := s_fldN (c := "Runner") (f := "past") (v := eCall mkLst aNil) (e := E none) (M := mp ++ [Cell.lst [], Cell.lst []]) (X := [Cell.lst []]) (r := r) (fs := F4 ++ [(("spoken" : Str), D.ref mp.length), (("gone" : Str), D.ref (mp.length + 1))]) (d := .ref (mp.length + 2)) (hrX _) rfl (alloc [Cell.lst [], Cell.lst []] _) (by simp [F4, F2])
    rw [this, List.append_assoc]; rfl
  have s8 : sFldS "Runner" "marks" (eVar 0) (eCall (fun _ => mkDit []) aNil) (E none) ((mp ++ [Cell.lst [], Cell.lst [], Cell.lst []]).set r (.ins "Runner" (F4 ++ [(("spoken" : Str), D.ref mp.length), (("gone" : Str), D.ref (mp.length + 1)), (("past" : Str), D.ref (mp.length + 2))]))) = .nx (E none) ((mp ++ [Cell.lst [], Cell.lst [], Cell.lst [], Cell.dit []]).set r (.ins "Runner" (runF (.ref b) ma.length mp.length (mp.length + 1) (mp.length + 2) (mp.length + 3) [(0, 0)] begins))) := by
    have hv : eCall (fun _ => mkDit []) aNil (E none) ((mp ++ [Cell.lst [], Cell.lst [], Cell.lst []]).set r (.ins "Runner" (F4 ++ [(("spoken" : Str), D.ref mp.length), (("gone" : Str), D.ref (mp.length + 1)), (("past" : Str), D.ref (mp.length + 2))]))) = .ok (.ref (mp.length + 3)) ((mp ++ [Cell.lst [], Cell.lst [], Cell.lst []]).set r (.ins "Runner" (F4 ++ [(("spoken" : Str), D.ref mp.length), (("gone" : Str), D.ref (mp.length + 1)), (("past" : Str), D.ref (mp.length + 2))])) ++ [Cell.dit []]) := by
      rw [v_call, v_nil, v_bind]
      unfold mkDit
      rw [List.length_set, List.length_append]; rfl
    have := s_fldN (c := "Runner") (f := "marks") (v := eCall (fun _ => mkDit []) aNil) (e := E none) (M := mp ++ [Cell.lst [], Cell.lst [], Cell.lst []]) (X := [Cell.dit []]) (r := r) (fs := F4 ++ [(("spoken" : Str), D.ref mp.length), (("gone" : Str), D.ref (mp.length + 1)), (("past" : Str), D.ref (mp.length + 2))]) (d := .ref (mp.length + 3)) (hrX _) rfl hv (by simp [F4, F2])
    rw [this, List.append_assoc]; rfl
  have hma : ma.length < mp.length := (List.getElem?_eq_some_iff.mp hps).1
  refine ⟨_, ma.length, mp.length, mp.length + 1, mp.length + 2, mp.length + 3, af_nx (E := E none) rfl (s_seq (s_ifF t1 rfl) (s_seq s1 (s_seq s2 (s_seq s3 (s_seq s4 (s_seq s5 (s_seq s6 (s_seq s7 s8)))))))), ?_, ?_, by rw [List.length_set, List.length_append]; omega, ?_⟩
  · have at_ : ∀ (i : Nat) (c : Cell), ([Cell.lst [], Cell.lst [], Cell.lst [], Cell.dit []] : Mem)[i]? = some c → ((mp ++ [Cell.lst [], Cell.lst [], Cell.lst [], Cell.dit []]).set r (.ins "Runner" (runF (.ref b) ma.length mp.length (mp.length + 1) (mp.length + 2) (mp.length + 3) [(0, 0)] begins)))[mp.length + i]? = some c := fun i c h => by
      rw [List.getElem?_set_ne (by omega), List.getElem?_append_right (by omega)]
      rw [show mp.length + i - mp.length = i from by omega]; exact h
    refine ⟨List.getElem?_set_self (hrX _), at_ 0 _ rfl, at_ 1 _ rfl, at_ 2 _ rfl, at_ 3 _ rfl, by simp; omega, ps, ?_, by simp; omega, hM.1, fun i p b0 h1 h2 => ?_⟩
    · rw [List.getElem?_set_ne (by omega)]
      exact Pre.add _ _ hps
    · obtain ⟨t, c, w, Q, q1, q2, q3, q4, q5, q6⟩ := hM.2 i p b0 h1 h2
      have up : ∀ (i : Nat) (c : Cell), i ≠ r → mp[i]? = some c → ((mp ++ [Cell.lst [], Cell.lst [], Cell.lst [], Cell.dit []]).set r (.ins "Runner" (runF (.ref b) ma.length mp.length (mp.length + 1) (mp.length + 2) (mp.length + 3) [(0, 0)] begins)))[i]? = some c := fun i c hi h => by
        rw [List.getElem?_set_ne (Ne.symm hi)]; exact Pre.add _ _ h
      exact ⟨t, c, w, ⟨up _ _ (by omega) Q.ins, up _ _ (by omega) Q.tk, up _ _ (by omega) Q.wy⟩, by simp; omega, by simp; omega, by simp; omega⟩
  · intro i c e hi
    have hir : i ≠ r := by simpa using hi
    rw [List.getElem?_set_ne (Ne.symm hir)]
    refine Pre.add _ _ (pp _ _ ?_)
    rw [List.getElem?_set_ne (Ne.symm hir)]
    exact pa0 _ _ e
  · intro x hx
    simp only [List.mem_cons, List.not_mem_nil, or_false] at hx
    omega
end Cl
set_option Elab.async false
set_option linter.all false
set_option maxRecDepth 100000
namespace Bk
def cfg0 (bs : List (List Stm)) (begins : List Int) : Cfg := ⟨begins, [], .bg :: ((bs.getD 0 []).map .st ++ [.en]), 1⟩
/-- the word of a run -/
def rword (c : Cfg) : String := if c.stk.isEmpty then "over" else if flt c then "fault" else "on"
theorem wf0 {bs : List (List Stm)} {C : Nat} {begins : List Int} (hb : bs ≠ []) (hC : begins.length = C) : Wf bs C (Cl.start0 begins) ∧ Sim bs (Cl.start0 begins) (cfg0 bs begins) := by
  have hl : 0 < bs.length := List.length_pos_iff.mpr hb
  refine ⟨⟨by simp [Cl.start0], fun rp h => ?_, fun rp h => ?_, hC, by simp [Cl.start0], by simp [Cl.start0]⟩, rfl, rfl, rfl, ?_⟩
  · simp [Cl.start0] at h
    subst h
    exact ⟨hl, by rw [plan_len]; simp⟩
  · simp [Cl.start0] at h
  · show Fe.bg :: ((bs.getD 0 []).map .st ++ [.en]) = kat (bod bs 0) 0 ++ []
    unfold kat
    rw [List.getD_eq_getElem?_getD (l := Kk _), Kk_zero, List.append_nil]; rfl
end Bk
namespace Cl
open PySem PySem.Spec PyProof.Rows L2 Ab Bk
theorem Kp.toPre {S : List Nat} {m m' : Mem} (k : Kp S m m') (h : ∀ x ∈ S, m.length ≤ x) : Pre m m' := fun i c e => k i c e (fun z => by
  have := h i z
  have := (List.getElem?_eq_some_iff.mp e).1
  omega)
theorem w_said {bs : List (List Stm)} {m : Mem} {r pl sp gn pa mk : Nat} {bk : D} {s : Rs} (R : RunO bs m r pl sp gn pa mk bk s) : f_Runner_said [.ref r] m = .ok (smD s.spoken) m :=
  af_rt (E := [some (.ref r)]) rfl (s_ret (e_call (a_c (v_fld rfl R.ins rfl) rfl) (by unfold bTuple itemsD; simp only [R.spo]; rfl)))
theorem w_contents {bs : List (List Stm)} {m : Mem} {r pl sp gn pa mk : Nat} {bk : D} {s : Rs} (R : RunO bs m r pl sp gn pa mk bk s) : f_Runner_contents [.ref r] m = .ok (smD s.hold) m :=
  af_rt (E := [some (.ref r)]) rfl (s_ret (v_fld rfl R.ins rfl))
theorem w_ran {m : Mem} {b : Nat} {C : Nat} {bs : List (List Stm)} {begins : List Int} {most : Nat} (hb : m[b]? = some (.ins "Book" (bookF C bs))) (hok : ∀ b ∈ bs, dpB b ≤ 8 ∧ szB b ≤ 38) (hok2 : ∀ b ∈ bs, okB C bs.length b) (hl : bs.length < 1000) (h0 : bs ≠ []) (hC : begins.length = C) (hC2 : C < 900) (hm : most ≤ 5000) :
    ∃ m', f_ran [.ref b, smD begins, I most] m = .ok (.tup [smD (runN bs most (cfg0 bs begins)).said, .str (Str.ofString (rword (runN bs most (cfg0 bs begins)))), smD (runN bs most (cfg0 bs begins)).vals]) m' ∧ Pre m m' := by
  let E (x3 x4 : Option D) : Env' := [some (.ref b), some (smD begins), some (I most), x3, x4]
  obtain ⟨m1, pl, sp, gn, pa, mk, v1, R1, k1, l1, hn1⟩ := w_runner_init (m := m ++ [.ins "Runner" []]) (r := m.length) (b := b) new_get (Pre.add _ _ hb) hok hl hC (by omega)
  rw [List.length_append, List.length_singleton] at l1 hn1
  have p1 : Pre m m1 := fun i c e => k1 i c (Pre.add _ _ e) (fun z => by
    have := (List.getElem?_eq_some_iff.mp e).1
    simp at z; omega)
  obtain ⟨W0, S0⟩ := wf0 h0 hC
  obtain ⟨m2, v2, R2, W2, k2, l2⟩ := w_go hok2 hC2 R1 W0 hm (by simp [start0])
  rw [goB_none bs most (start0 begins) rfl] at R2 W2
  obtain ⟨_, S2⟩ := go_ok bs hok2 most W0 S0
  have q2 : Pre m m2 := fun i c e => k2 i c (p1 i c e) (fun z => by
    have hi := (List.getElem?_eq_some_iff.mp e).1
    have h := hn1 i
    simp only [Sx, List.mem_cons, List.not_mem_nil, or_false] at z h
    rcases z with z | z
    · omega
    · have := h z
      omega)
  generalize hs : goR bs most (start0 begins) = s2 at *
  generalize hc : runN bs most (cfg0 bs begins) = c2 at *
  have hw := word_stop bs W2 S2
  have s1 : sAsg (eMk "Runner" f_Runner_init (aCons (eVar 0) (aCons (eVar 1) (aNil)))) (gN 3) (E none none) m = .nx (E (some (.ref m.length)) none) m1 := s_asg (e_mk (a_c rfl (a_c rfl rfl)) v1)
  have s2' : sExp (eMeth "Runner" "go" f_Runner_go (eVar 3) (aCons (eVar 2) (aNil))) (E (some (.ref m.length)) none) m1 = .nx (E (some (.ref m.length)) none) m2 := s_exp (e_meth rfl R1.ins rfl (a_c rfl rfl) v2)
  have s3 : sAsg (eMeth "Runner" "word" f_Runner_word (eVar 3) aNil) (gN 4) (E (some (.ref m.length)) none) m2 = .nx (E (some (.ref m.length)) (some (.str (Str.ofString (word bs s2))))) m2 := s_asg (e_meth rfl R2.ins rfl rfl (w_word R2 W2))
  have s4 : sIf (tVal (eOp dEq (eVar 4) (eC (.str "runs")))) (sAsg (eC (.str "on")) (gN 4)) (sSkip) (E (some (.ref m.length)) (some (.str (Str.ofString (word bs s2))))) m2 = .nx (E (some (.ref m.length)) (some (.str (Str.ofString (rword c2))))) m2 := by
    have t1 : tVal (eOp dEq (eVar 4) (eC (.str "runs"))) (E (some (.ref m.length)) (some (.str (Str.ofString (word bs s2))))) m2 = .ok (decide (word bs s2 = "runs")) m2 := by
      refine t_v (e_op rfl rfl ?_)
      rw [v_eqS (ok_word' s2) ok_runs]
      congr 2
      exact decide_eq_decide.mpr (str_word s2)
    unfold rword
    by_cases e1 : c2.stk.isEmpty = true
    · rw [if_pos e1] at hw ⊢
      rw [hw] at t1 ⊢
      exact s_ifF t1 rfl
    · rw [if_neg e1] at hw ⊢
      by_cases e2 : flt c2 = true
      · rw [if_pos e2] at hw ⊢
        rw [hw] at t1 ⊢
        exact s_ifF t1 rfl
      · rw [if_neg e2] at hw ⊢
        rw [hw] at t1 ⊢
        exact s_ifT t1 rfl
  refine ⟨m2, ?_, q2⟩
  rw [S2.said, S2.vals]
  exact af_rt (E := E none none) rfl (s_seq s1 (s_seq s2' (s_seq s3 (s_seq s4 (s_ret (e_tup (a_c (e_meth rfl R2.ins rfl rfl (w_said R2)) (a_c rfl (a_c (e_meth rfl R2.ins rfl rfl (w_contents R2)) rfl)))))))))
end Cl
set_option Elab.async false
set_option linter.all false
set_option maxRecDepth 100000
/-! # a book is made of right bodies -/
namespace Cl
open PySem PySem.Spec PyProof.Rows L2 Ab Bk
theorem et_eqS {e : Env'} {i : Nat} {x z : Str} {k : Bool} (h : e[i]? = some (some (.str x))) (hx : PyData.strOk x = true) (hz : PyData.strOk z = true) (hk : decide (x = z) = k) : Et e (tVal (eOp dEq (eVar i) (eC (.str z)))) k :=
  et_v (ev_op0 (ev_v i h) ev_c fun m => by rw [v_eqS hx hz, hk])
theorem ev_lenT {e : Env'} {a : AE} {ds : List D} (h : Ev e a (.tup ds)) : Ev e (eCall bLen (aCons a aNil)) (I ds.length) := ev_call0 (ea_c h ea_nil) fun m => rfl
theorem ev_eqI {e : Env'} {a b : AE} {i j : Int} {k : Bool} (ha : Ev e a (.int i)) (hb : Ev e b (.int j)) (hk : decide (i = j) = k) : Ev e (eOp dEq a b) (.bl k) := ev_op0 ha hb fun m => by rw [w_eqI, hk]
theorem ev_add {e : Env'} {a b : AE} {i j : Int} (ha : Ev e a (.int i)) (hb : Ev e b (.int j)) : Ev e (eOp dAdd a b) (.int (i + j)) := ev_op0 ha hb fun m => rfl
theorem ev_sub {e : Env'} {a b : AE} {i j : Int} (ha : Ev e a (.int i)) (hb : Ev e b (.int j)) : Ev e (eOp dSub a b) (.int (i - j)) := ev_op0 ha hb fun m => rfl
theorem ev_btw {e : Env'} {a b c : AE} {i lo hi : Int} (ha : Ev e a (.int i)) (hb : Ev e b (.int lo)) (hc : Ev e c (.int hi)) (h : lo ≤ i ∧ i ≤ hi) : Ev e (eCall f_is_between (aCons a (aCons b (aCons c aNil)))) (.bl true) :=
  ev_call0 (ea_c ha (ea_c hb (ea_c hc ea_nil))) fun m => by rw [w_btw, decide_eq_true h.1, decide_eq_true h.2]; rfl
theorem ev_cint {e : Env'} {i : Int} : Ev e (eC (.int i)) (.int i) := ev_c
theorem ev_neg {e : Env'} {i : Int} : Ev e (eUn dNeg (eC (.int i))) (.int (-i)) := ev_un ev_c fun m => rfl
/-- all of a walk -/
theorem ev_allOf {e : Env'} {it : AI} {tg : AG} {el : AE} {vs : List Nat} {α : Type} (gx : α → D) (xs : List α) (hi : EI e it (xs.map gx)) (hl : xs.length < 2 ^ 24)
    (hs : ∀ x ∈ xs, ∃ e2, (∀ m, tg (gx x) (wipeE e vs) m = .ok e2 m) ∧ Ev e2 el (.bl true)) : Ev e (eCall (bAll true) (aCons (eLc it tg tYesA el vs) aNil)) (.bl true) := by
  have h1 := ev_lc0 (vs := vs) (tg := tg) (el := el) gx xs (fun _ => .bl true) hi hl hs
  have h2 := ev_all (bs := xs.map fun _ => true) (by rw [List.map_map]; exact h1)
  have h3 : (xs.map fun _ => true).all id = true := by simp
  rw [h3] at h2
  exact h2
theorem fn_is_sum {C : Nat} {s : List Int} (h : okSum C s) (hC : C < 1000) : Fn f_is_sum [smD s, I C] (.bl true) := by
  refine fn_of (sr_ret (ev_and (k := true) (l := true) (ev_call0 (ea_c (ev_v 0) (ea_c (ev_add (ev_v 1) ev_cint) ea_nil)) fun m => ?_) fun _ => ?_))
  · show f_is_row [.tup (s.map D.int), I (C + 1)] m = _
    rw [w_is_rowT, List.length_map, h.1]; simp
  · exact ev_allOf D.int s (ei_tup (ev_v 0)) (by rw [h.1]; omega) fun i hi => ⟨[some (smD s), some (I C), some (.int i)], fun m => rfl, ev_btw (ev_v 2) ev_neg ev_cint (h.2 i hi)⟩
theorem fn_is_test {C : Nat} {w : Bool} {a b : List Int} (ha : okSum C a) (hb : okSum C b) (hC : C < 1000) : Fn f_is_test [tsD w a b, I C] (.bl true) := by
  have e0 : Ev [some (tsD w a b), some (I C)] (eOp dIx (eVar 0) (eC (.int 0))) (wdD w) := ev_ix (ev_v 0) ev_cint rfl
  refine fn_of (sr_seq (e1 := [some (tsD w a b), some (I C)]) (sn_ifF (et_nop (et_or (k := false) (l := false) (et_nt (k := true) (et_v (ev_call0 (ea_c (ev_v 0) (ea_c ev_cint ea_nil)) fun m => ?_))) fun _ => et_nt (k := true) (et_v (ev_isi e0 (tn := "str") (fun m => rfl) (by decide +kernel)))) rfl) sn_skip) (sr_ret (ev_and (k := true) (l := true) ?_ fun _ => ev_and (k := true) (l := true) (ev_fn (ea_c (ev_ix (d := smD a) (ev_v 0) ev_cint rfl) (ea_c (ev_v 1) ea_nil)) (fn_is_sum ha hC)) fun _ => ev_fn (ea_c (ev_ix (d := smD b) (ev_v 0) ev_cint rfl) (ea_c (ev_v 1) ea_nil)) (fn_is_sum hb hC))))
  · show f_is_row [.tup [wdD w, smD a, smD b], I 3] m = _
    rw [w_is_rowT]; rfl
  · refine ev_op0 e0 (ev_tup (ea_c ev_c (ea_c ev_c ea_nil)) (by exact Nat.le_of_ble_eq_true rfl)) fun m => ?_
    unfold wdD
    cases w with
    | false => rw [if_neg Bool.false_ne_true, v_in2 ok_same ok_less ok_same]; rfl
    | true => rw [if_pos rfl, v_in2 ok_less ok_less ok_same]; rfl
/-- a body, when its statements are right -/
theorem fn_body_of {C R k deep : Nat} {b : List Stm} (hd : deep ≤ 8) (hl : b.length < 2 ^ 24) (h : ∀ s ∈ b, Fn (f_is_statement (k + 1)) [stD s, I deep, I C, I R] (.bl true)) : Fn (f_is_body (k + 2)) [.tup (bdD b), I deep, I C, I R] (.bl true) := by
  rw [show f_is_body (k + 2) = afOf 5 (a_is_body (f_is_statement (k + 1))) from rfl]
  refine fn_of (sr_seq (e1 := [some (.tup (bdD b)), some (I deep), some (I C), some (I R), none]) (sn_ifF (et_nop (et_or (k := false) (l := false) (et_nt (k := true) (et_v (ev_isi (tn := "tuple") (ev_v 0) (fun m => rfl) (by decide +kernel)))) fun _ => et_v (ev_op0 (ev_v 1) ev_cint fun m => ?_)) rfl) sn_skip) (sr_ret ?_))
  · show Ab.R.ok (D.bl (decide ((deep : Int) > 8))) m = _
    rw [decide_eq_false (by omega)]
  · refine ev_allOf stD b (ei_tup (by rw [← bdD_map]; exact ev_v 0)) hl fun s hs => ⟨[some (.tup (bdD b)), some (I deep), some (I C), some (I R), some (stD s)], fun m => rfl, ev_fn (ea_c (ev_v 4) (ea_c (ev_v 1) (ea_c (ev_v 2) (ea_c (ev_v 3) ea_nil)))) (h s hs)⟩
theorem fn_stm_of {C R k deep : Nat} {s : Stm} (h : SR [some (stD s), some (I deep), some (I C), some (I R), some (.str (wdS s)), none, none] (sSeq (sIf (tVal (eOp dEq (eVar 4) (eC (.str "set"))))
    (sRet (eAnd (eOp dEq (eCall bLen (aCons (eVar 0) (aNil))) (eC (.int 3))) (eAnd (eCall f_is_between (aCons (eOp dIx (eVar 0) (eC (.int 1))) (aCons (eC (.int 0)) (aCons (eOp dSub (eVar 2) (eC (.int 1))) (aNil))))) (eCall f_is_sum (aCons (eOp dIx (eVar 0) (eC (.int 2))) (aCons (eVar 2) (aNil)))))))
    (sSkip))
    (sSeq (sIf (tVal (eOp dEq (eVar 4) (eC (.str "say"))))
    (sRet (eAnd (eOp dEq (eCall bLen (aCons (eVar 0) (aNil))) (eC (.int 2))) (eCall f_is_sum (aCons (eOp dIx (eVar 0) (eC (.int 1))) (aCons (eVar 2) (aNil))))))
    (sSkip))
    (sSeq (sIf (tVal (eOp dEq (eVar 4) (eC (.str "call"))))
    (sRet (eAnd (eOp dEq (eCall bLen (aCons (eVar 0) (aNil))) (eC (.int 2))) (eCall f_is_between (aCons (eOp dIx (eVar 0) (eC (.int 1))) (aCons (eC (.int 0)) (aCons (eOp dSub (eVar 3) (eC (.int 1))) (aNil)))))))
    (sSkip))
    (sSeq (sIf (tVal (eOp dEq (eVar 4) (eC (.str "if"))))
    (sAsg (eC (.int 2)) (gN 5))
    (sIf (tVal (eOp dEq (eVar 4) (eC (.str "while"))))
    (sAsg (eC (.int 1)) (gN 5))
    (sRet (eC (.bl false)))))
    (sSeq (sIf (tOrr (tVal (eOp dNe (eCall bLen (aCons (eVar 0) (aNil))) (eOp dAdd (eC (.int 2)) (eVar 5)))) (tNt (tVal (eCall f_is_test (aCons (eOp dIx (eVar 0) (eC (.int 1))) (aCons (eVar 2) (aNil)))))))
    (sRet (eC (.bl false)))
    (sSkip))
    (sRet (eCall (bAll true) (aCons (eLc (iE (eSl (eVar 0) (oSome (eC (.int 2))) (oNone))) (gN 6) (tYesA) (eCall (f_is_body k) (aCons (eVar 6) (aCons (eOp dAdd (eVar 1) (eC (.int 1))) (aCons (eVar 2) (aCons (eVar 3) (aNil)))))) [6]) (aNil)))))))) ) (.bl true)) :
    Fn (f_is_statement (k + 1)) [stD s, I deep, I C, I R] (.bl true) := by
  rw [show f_is_statement (k + 1) = afOf 7 (a_is_statement (f_is_body k)) from rfl]
  obtain ⟨ds, e1, e2⟩ := at0_stD s
  have e0 : Ev [some (stD s), some (I deep), some (I C), some (I R), none, none, none] (eOp dIx (eVar 0) (eC (.int 0))) (.str (wdS s)) := ev_ix (by rw [e1]; exact ev_v 0) ev_cint e2
  have hlen : decide ((ds.length : Int) = 0) = false := by
    cases ds with
    | nil => cases e2
    | cons d r => exact decide_eq_false (by rw [List.length_cons]; omega)
  refine fn_of (sr_seq (sn_ifF (et_nop (et_or (k := false) (l := false) (et_nt (k := true) (et_v (ev_isi (tn := "tuple") (ev_v 0) (fun m => by rw [e1]; rfl) (by decide +kernel)))) fun _ => et_nop (et_or (k := false) (l := false) (et_v (ev_eqI (ev_lenT (ds := ds) (by rw [e1]; exact ev_v 0)) ev_cint hlen)) fun _ => et_nt (k := true) (et_v (ev_isi (tn := "str") e0 (fun m => rfl) (by decide +kernel)))) rfl) rfl) sn_skip) (sr_seq (sn_asg e0) h))
theorem szB_len : ∀ b : List Stm, b.length ≤ szB b
  | [] => by simp [szB]
  | s :: r => by
    have h1 := szB_len r
    have h2 : 1 ≤ szS s := by cases s <;> simp only [szS] <;> omega
    simp only [szB, List.length_cons]; omega
theorem neI_F {i j : Int} {m : Mem} (h : i = j) : dNe (.int i) (.int j) m = .ok (.bl false) m := by rw [w_neI, decide_eq_true h]; rfl
mutual
theorem fn_stm {C R : Nat} (hC : C < 1000) : ∀ (s : Stm) {k deep : Nat}, 2 * dpS s ≤ k → okS C R s → deep + dpS s ≤ 8 → szS s < 1000 → Fn (f_is_statement (k + 1)) [stD s, I deep, I C, I R] (.bl true)
  | .set c z, k, deep, hk, ho, hd, hz => fn_stm_of (sr_seqR (sr_ifT (et_eqS rfl ok_set ok_set rfl) (sr_ret (ev_and (k := true) (l := true) (ev_eqI (ev_lenT (ds := [.str "set", I c, smD z]) (ev_v 0)) ev_cint rfl) fun _ => ev_and (k := true) (l := true) (ev_btw (ev_ix (d := I c) (ds := [.str "set", I c, smD z]) (ev_v 0) ev_cint rfl) ev_cint (ev_sub (ev_v 2) ev_cint) (by have := ho.1; omega)) fun _ => ev_fn (ea_c (ev_ix (d := smD z) (ds := [.str "set", I c, smD z]) (ev_v 0) ev_cint rfl) (ea_c (ev_v 2) ea_nil)) (fn_is_sum ho.2 hC)))))
  | .say z, k, deep, hk, ho, hd, hz => fn_stm_of (sr_seq (sn_ifF (et_eqS rfl ok_say ok_set rfl) sn_skip) (sr_seqR (sr_ifT (et_eqS rfl ok_say ok_say rfl) (sr_ret (ev_and (k := true) (l := true) (ev_eqI (ev_lenT (ds := [.str "say", smD z]) (ev_v 0)) ev_cint rfl) fun _ => ev_fn (ea_c (ev_ix (d := smD z) (ds := [.str "say", smD z]) (ev_v 0) ev_cint rfl) (ea_c (ev_v 2) ea_nil)) (fn_is_sum ho hC))))))
  | .call r, k, deep, hk, ho, hd, hz => fn_stm_of (sr_seq (sn_ifF (et_eqS rfl ok_call ok_set rfl) sn_skip) (sr_seq (sn_ifF (et_eqS rfl ok_call ok_say rfl) sn_skip) (sr_seqR (sr_ifT (et_eqS rfl ok_call ok_call rfl) (sr_ret (ev_and (k := true) (l := true) (ev_eqI (ev_lenT (ds := [.str "call", I r]) (ev_v 0)) ev_cint rfl) fun _ => ev_btw (ev_ix (d := I r) (ds := [.str "call", I r]) (ev_v 0) ev_cint rfl) ev_cint (ev_sub (ev_v 3) ev_cint) (by have : r < R := ho; omega)))))))
  | .ifs w a b x y, k, deep, hk, ho, hd, hz => by
    simp only [dpS] at hk hd
    simp only [szS] at hz
    have px := dpB_pos x
    obtain ⟨k1, rfl⟩ : ∃ k1, k = k1 + 2 := ⟨k - 2, by omega⟩
    have hx := fn_body_of (C := C) (R := R) (k := k1) (deep := deep + 1) (b := x) (by omega) (by have := szB_len x; omega) (fn_bds hC x (by omega) ho.2.2.1 (by omega) (by omega))
    have hy := fn_body_of (C := C) (R := R) (k := k1) (deep := deep + 1) (b := y) (by have := dpB_pos y; omega) (by have := szB_len y; omega) (fn_bds hC y (by omega) ho.2.2.2 (by omega) (by omega))
    refine fn_stm_of (sr_seq (sn_ifF (et_eqS rfl ok_if ok_set rfl) sn_skip) (sr_seq (sn_ifF (et_eqS rfl ok_if ok_say rfl) sn_skip) (sr_seq (sn_ifF (et_eqS rfl ok_if ok_call rfl) sn_skip) (sr_seq (sn_ifT (et_eqS rfl ok_if ok_if rfl) (sn_asg ev_cint)) (sr_seq (sn_ifF (et_nop (et_or (k := false) (l := false) (et_v (ev_op0 (ev_lenT (ds := [.str "if", tsD w a b, .tup (bdD x), .tup (bdD y)]) (ev_v 0)) (ev_add ev_cint (ev_v 5)) fun m => neI_F rfl)) fun _ => et_nt (k := true) (et_v (ev_fn (ea_c (ev_ix (d := tsD w a b) (ds := [.str "if", tsD w a b, .tup (bdD x), .tup (bdD y)]) (ev_v 0) ev_cint rfl) (ea_c (ev_v 2) ea_nil)) (fn_is_test ho.1 ho.2.1 hC)))) rfl) sn_skip) (sr_ret (ev_allOf (fun b => .tup (bdD b)) [x, y] (ei_tup (ev_sl (ds := [.str "if", tsD w a b, .tup (bdD x), .tup (bdD y)]) (ev_v 0) (eo_s ev_cint) eo_n)) (by show _ < 16777216; simp) fun u hb => ⟨[some (stD (.ifs w a b x y)), some (I deep), some (I C), some (I R), some (.str (wdS (.ifs w a b x y))), some (.int 2), some (.tup (bdD u))], fun m => rfl, ev_fn (ea_c (ev_v 6) (ea_c (x := I (deep + 1)) (ev_add (i := (deep : Int)) (ev_v 1 rfl) ev_cint) (ea_c (ev_v 2) (ea_c (ev_v 3) ea_nil)))) ?_⟩)))))))
    simp only [List.mem_cons, List.not_mem_nil, or_false] at hb
    rcases hb with rfl | rfl
    · exact hx
    · exact hy
  | .whl w a b x, k, deep, hk, ho, hd, hz => by
    simp only [dpS] at hk hd
    simp only [szS] at hz
    have px := dpB_pos x
    obtain ⟨k1, rfl⟩ : ∃ k1, k = k1 + 2 := ⟨k - 2, by omega⟩
    have hx := fn_body_of (C := C) (R := R) (k := k1) (deep := deep + 1) (b := x) (by omega) (by have := szB_len x; omega) (fn_bds hC x (by omega) ho.2.2 (by omega) (by omega))
    refine fn_stm_of (sr_seq (sn_ifF (et_eqS rfl ok_while ok_set rfl) sn_skip) (sr_seq (sn_ifF (et_eqS rfl ok_while ok_say rfl) sn_skip) (sr_seq (sn_ifF (et_eqS rfl ok_while ok_call rfl) sn_skip) (sr_seq (sn_ifF (et_eqS rfl ok_while ok_if rfl) (sn_ifT (et_eqS rfl ok_while ok_while rfl) (sn_asg ev_cint))) (sr_seq (sn_ifF (et_nop (et_or (k := false) (l := false) (et_v (ev_op0 (ev_lenT (ds := [.str "while", tsD w a b, .tup (bdD x)]) (ev_v 0)) (ev_add ev_cint (ev_v 5)) fun m => neI_F rfl)) fun _ => et_nt (k := true) (et_v (ev_fn (ea_c (ev_ix (d := tsD w a b) (ds := [.str "while", tsD w a b, .tup (bdD x)]) (ev_v 0) ev_cint rfl) (ea_c (ev_v 2) ea_nil)) (fn_is_test ho.1 ho.2.1 hC)))) rfl) sn_skip) (sr_ret (ev_allOf (fun b => .tup (bdD b)) [x] (ei_tup (ev_sl (ds := [.str "while", tsD w a b, .tup (bdD x)]) (ev_v 0) (eo_s ev_cint) eo_n)) (by show _ < 16777216; simp) fun u hb => ⟨[some (stD (.whl w a b x)), some (I deep), some (I C), some (I R), some (.str (wdS (.whl w a b x))), some (.int 1), some (.tup (bdD u))], fun m => rfl, ev_fn (ea_c (ev_v 6) (ea_c (x := I (deep + 1)) (ev_add (i := (deep : Int)) (ev_v 1 rfl) ev_cint) (ea_c (ev_v 2) (ea_c (ev_v 3) ea_nil)))) ?_⟩)))))))
    rw [List.mem_singleton] at hb
    subst hb
    exact hx
theorem fn_bds {C R : Nat} (hC : C < 1000) : ∀ (b : List Stm) {k deep : Nat}, 2 * dpB b ≤ k + 2 → okB C R b → deep + dpB b ≤ 9 → szB b < 1000 → ∀ s ∈ b, Fn (f_is_statement (k + 1)) [stD s, I deep, I C, I R] (.bl true)
  | [], k, deep, hk, ho, hd, hz, s, hs => by cases hs
  | t :: r, k, deep, hk, ho, hd, hz, s, hs => by
    simp only [dpB] at hk hd
    simp only [szB] at hz
    have h1 : Fn (f_is_statement (k + 1)) [stD t, I deep, I C, I R] (.bl true) := fn_stm hC t (by omega) ho.1 (by omega) (by omega)
    have h2 : ∀ s ∈ r, Fn (f_is_statement (k + 1)) [stD s, I deep, I C, I R] (.bl true) := fn_bds hC r (by omega) ho.2 (by omega) (by omega)
    rcases List.mem_cons.mp hs with e | hs
    · rw [e]; exact h1
    · exact h2 s hs
end
end Cl
set_option Elab.async false
set_option linter.all false
set_option maxRecDepth 100000
/-! # places of a body; Book.__init__ -/
namespace Cl
open PySem PySem.Spec PyProof.Rows L2 Ab Bk
/-- what is done for each statement -/
noncomputable def plB (r : AF) : AS :=
    (sIf (tVal (eOp dEq (eOp dIx (eVar 2) (eC (.int 0))) (eC (.str "if"))))
    (sAug 1 (fun i j => i + j) (eOp dAdd (eOp dAdd (eC (.int 2)) (eCall r (aCons (eOp dIx (eVar 2) (eC (.int 2))) (aNil)))) (eCall r (aCons (eOp dIx (eVar 2) (eC (.int 3))) (aNil)))))
    (sIf (tVal (eOp dEq (eOp dIx (eVar 2) (eC (.int 0))) (eC (.str "while"))))
    (sAug 1 (fun i j => i + j) (eOp dAdd (eC (.int 1)) (eCall r (aCons (eOp dIx (eVar 2) (eC (.int 2))) (aNil)))))
    (sAug 1 (fun i j => i + j) (eC (.int 1)))))
theorem et_wd {i : Nat} {e : Env'} {s : Stm} {z : Str} {k : Bool} (h : e[i]? = some (some (stD s))) (hz : PyData.strOk z = true) (hk : decide (wdS s = z) = k) : Et e (tVal (eOp dEq (eOp dIx (eVar i) (eC (.int 0))) (eC (.str z)))) k := fun m => ⟨m, by rw [w_wd h hz, hk], .refl⟩
theorem fn_places_of {k : Nat} {b : List Stm} (h : ∀ s ∈ b, ∀ n, SN [some (.tup (bdD b)), some (I n), some (stD s)] (plB (f_places_in k)) [some (.tup (bdD b)), some (I (n + szS s)), some (stD s)]) : Fn (f_places_in (k + 1)) [.tup (bdD b)] (I (szB b)) := by
  rw [show f_places_in (k + 1) = afOf 3 (a_places_in (f_places_in k)) from rfl]
  let E (n : Nat) (x : Option D) : Env' := [some (.tup (bdD b)), some (I n), x]
  obtain ⟨e', h1, todo, n, x2, h2, rfl, h3, h4⟩ := sn_for (s := plB (f_places_in k)) (tg := gN 2) (E := fun rest e => ∃ (todo : List Stm) (n : Nat) (x2 : Option D), rest = bdD todo ∧ e = E n x2 ∧ n + szB todo = szB b ∧ ∀ s ∈ todo, s ∈ b) (e := E 0 none) (ei_tup (ev_v 0)) ⟨b, 0, none, rfl, rfl, by omega, fun s hs => hs⟩ (fun d r e hE => by
    obtain ⟨todo, n, x2, e1, rfl, e3, e4⟩ := hE
    cases todo with
    | nil => simp [bdD] at e1
    | cons s todo =>
      simp only [bdD] at e1
      simp only [szB] at e3
      obtain ⟨rfl, rfl⟩ := List.cons.inj e1
      exact ⟨E n (some (stD s)), fun m => rfl, E (n + szS s) (some (stD s)), h s (e4 s List.mem_cons_self) n, todo, n + szS s, _, rfl, rfl, by omega, fun t ht => e4 t (List.mem_cons_of_mem _ ht)⟩)
  have e4 : todo = [] := by
    cases todo with
    | nil => rfl
    | cons a b => simp [bdD] at h2
  subst e4
  simp only [szB, Nat.add_zero] at h3
  subst h3
  exact fn_of (sr_seq (sn_asg ev_cint) (sr_seq (e1 := E (szB b) x2) h1 (sr_ret (ev_v 1))))
mutual
theorem fn_plS : ∀ (s : Stm) {k : Nat}, dpS s ≤ k → ∀ (bd : D) (n : Nat), SN [some bd, some (I n), some (stD s)] (plB (f_places_in k)) [some bd, some (I (n + szS s)), some (stD s)]
  | .set c z, k, hk, bd, n => sn_ifF (et_wd rfl ok_if rfl) (sn_ifF (et_wd rfl ok_while rfl) (sn_aug (n := (n : Int)) (p := 1) rfl ev_cint))
  | .say z, k, hk, bd, n => sn_ifF (et_wd rfl ok_if rfl) (sn_ifF (et_wd rfl ok_while rfl) (sn_aug (n := (n : Int)) (p := 1) rfl ev_cint))
  | .call z, k, hk, bd, n => sn_ifF (et_wd rfl ok_if rfl) (sn_ifF (et_wd rfl ok_while rfl) (sn_aug (n := (n : Int)) (p := 1) rfl ev_cint))
  | .ifs w a b x y, k, hk, bd, n => by
    simp only [dpS] at hk
    have px := dpB_pos x
    obtain ⟨k1, rfl⟩ : ∃ k1, k = k1 + 1 := ⟨k - 1, by omega⟩
    have hx := fn_places_of (k := k1) (b := x) (fun s hs n => fn_plB x (by omega) s hs _ n)
    have hy := fn_places_of (k := k1) (b := y) (fun s hs n => fn_plB y (by omega) s hs _ n)
    have e : (n : Int) + ((2 : Int) + (szB x : Int) + (szB y : Int)) = ((n + (2 + szB x + szB y) : Nat) : Int) := by omega
    have := sn_aug (i := 1) (g := fun i j => i + j) (e := [some bd, some (I n), some (stD (.ifs w a b x y))]) (n := (n : Int)) (p := 2 + szB x + szB y) rfl (ev_add (ev_add ev_cint (ev_fn (ea_c (ev_ix (n := 2) (d := .tup (bdD x)) (ds := [.str "if", tsD w a b, .tup (bdD x), .tup (bdD y)]) (ev_v 2) ev_cint rfl) ea_nil) hx)) (ev_fn (ea_c (ev_ix (n := 3) (d := .tup (bdD y)) (ds := [.str "if", tsD w a b, .tup (bdD x), .tup (bdD y)]) (ev_v 2) ev_cint rfl) ea_nil) hy))
    rw [e] at this
    simp only [szS]
    exact sn_ifT (et_wd rfl ok_if rfl) this
  | .whl w a b x, k, hk, bd, n => by
    simp only [dpS] at hk
    have px := dpB_pos x
    obtain ⟨k1, rfl⟩ : ∃ k1, k = k1 + 1 := ⟨k - 1, by omega⟩
    have hx := fn_places_of (k := k1) (b := x) (fun s hs n => fn_plB x (by omega) s hs _ n)
    have e : (n : Int) + ((1 : Int) + (szB x : Int)) = ((n + (1 + szB x) : Nat) : Int) := by omega
    have := sn_aug (i := 1) (g := fun i j => i + j) (e := [some bd, some (I n), some (stD (.whl w a b x))]) (n := (n : Int)) (p := 1 + szB x) rfl (ev_add ev_cint (ev_fn (ea_c (ev_ix (n := 2) (d := .tup (bdD x)) (ds := [.str "while", tsD w a b, .tup (bdD x)]) (ev_v 2) ev_cint rfl) ea_nil) hx))
    rw [e] at this
    simp only [szS]
    exact sn_ifF (et_wd rfl ok_if rfl) (sn_ifT (et_wd rfl ok_while rfl) this)
theorem fn_plB : ∀ (b : List Stm) {k : Nat}, dpB b ≤ k + 1 → ∀ s ∈ b, ∀ (bd : D) (n : Nat), SN [some bd, some (I n), some (stD s)] (plB (f_places_in k)) [some bd, some (I (n + szS s)), some (stD s)]
  | [], k, hk, s, hs => by cases hs
  | t :: r, k, hk, s, hs => by
    simp only [dpB] at hk
    have h1 : ∀ (bd : D) (n : Nat), SN [some bd, some (I n), some (stD t)] (plB (f_places_in k)) [some bd, some (I (n + szS t)), some (stD t)] := fn_plS t (by omega)
    have h2 : ∀ s ∈ r, ∀ (bd : D) (n : Nat), SN [some bd, some (I n), some (stD s)] (plB (f_places_in k)) [some bd, some (I (n + szS s)), some (stD s)] := fn_plB r (by omega)
    rcases List.mem_cons.mp hs with e | hs
    · rw [e]; exact h1
    · exact h2 s hs
end
theorem fn_places (b : List Stm) (h : dpB b ≤ 20) : Fn (f_places_in 20) [.tup (bdD b)] (I (szB b)) := fn_places_of fun s hs n => fn_plB b (by omega) s hs _ n
theorem fn_body {C R : Nat} (hC : C < 1000) {b : List Stm} (h1 : dpB b ≤ 8) (h2 : szB b < 1000) (h3 : okB C R b) : Fn (f_is_body 20) [.tup (bdD b), .int 1, I C, I R] (.bl true) :=
  fn_body_of (k := 18) (deep := 1) (by omega) (by have := szB_len b; omega) (fn_bds hC b (by omega) h3 (by omega) h2)
def rtD (bs : List (List Stm)) : D := .tup (bs.map fun b => .tup (bdD b))
theorem fn_wrong_part {C : Nat} {bs : List (List Stm)} (hC : 1 ≤ C ∧ C ≤ 4) (hb : 1 ≤ bs.length ∧ bs.length ≤ 5) (h : ∀ b ∈ bs, dpB b ≤ 8 ∧ szB b ≤ 38 ∧ okB C bs.length b) : Fn f_wrong_part [I C, rtD bs] .non := by
  let E (x y : Option D) : Env' := [some (I C), some (rtD bs), x, y]
  have lb : bs.length = (bs.map fun b => D.tup (bdD b)).length := by simp
  have t1 : Et (E none none) (tNt (tVal (eCall f_is_between (aCons (eVar 0) (aCons (eC (.int 1)) (aCons (eC (.int 4)) (aNil))))))) false := et_nt (k := true) (et_v (ev_btw (ev_v 0) ev_cint ev_cint (by omega)))
  have t2 : Et (E none none) (tOrr (tNt (tVal (eIsi "tuple" (eVar 1)))) (tNt (tVal (eChain dLe dLe (eC (.int 1)) (eCall bLen (aCons (eVar 1) (aNil))) (eC (.int 5)))))) false := by
    refine et_nop (et_or (k := false) (l := false) (et_nt (k := true) (et_v (ev_isi (tn := "tuple") (ev_v 1) (fun m => rfl) (by decide +kernel)))) fun _ => et_nt (k := true) (et_v (ev_chain (k := true) (l := true) ev_cint (y := I bs.length) (by rw [lb]; exact ev_lenT (ev_v 1)) (fun m => ?_) ev_cint fun m => ?_))) rfl
    · show Ab.R.ok (D.bl (decide ((1 : Int) ≤ (bs.length : Int)))) m = _
      rw [decide_eq_true (by omega)]
    · show Ab.R.ok (D.bl (decide ((bs.length : Int) ≤ (5 : Int)))) m = _
      rw [decide_eq_true (by omega)]
  have hit : EI (E none none) (iA enm (aCons (eVar 1) (aNil))) (enk 0 (bs.map fun b => D.tup (bdD b))) := fun m => ⟨[], m, rfl, .refl, fun _ _ => gd_nil⟩
  obtain ⟨e', h1, todo, k, x, y, h2, rfl, _⟩ := sn_for (tg := gT 2 (gsCons (gN 2) (gsCons (gN 3) (gsNil)))) (s := (sIf (tOrr (tNt (tVal (eCall (f_is_body 20) (aCons (eVar 3) (aCons (eC (.int 1)) (aCons (eVar 0) (aCons (eCall bLen (aCons (eVar 1) (aNil))) (aNil)))))))) (tVal (eOp dGt (eOp dAdd (eC (.int 2)) (eCall (f_places_in 20) (aCons (eVar 3) (aNil)))) (eC (.int 40)))))
    (sRet (eCall mkTup (aCons (eC (.str "routine")) (aCons (eVar 2) (aNil)))))
    (sSkip))) (E := fun rest e => ∃ (todo : List (List Stm)) (k : Nat) (x y : Option D), rest = enk k (todo.map fun b => D.tup (bdD b)) ∧ e = E x y ∧ ∀ b ∈ todo, b ∈ bs) hit ⟨bs, 0, none, none, rfl, rfl, fun b hb => hb⟩ (fun d r e hE => by
      obtain ⟨todo, k, x, y, e1, rfl, e3⟩ := hE
      cases todo with
      | nil => cases e1
      | cons b todo =>
        rw [List.map_cons, enk_cons] at e1
        obtain ⟨rfl, rfl⟩ := List.cons.inj e1
        obtain ⟨q1, q2, q3⟩ := h b (e3 b List.mem_cons_self)
        refine ⟨E (some (I k)) (some (.tup (bdD b))), fun m => rfl, E (some (I k)) (some (.tup (bdD b))), sn_ifF (et_nop (et_or (k := false) (l := false) (et_nt (k := true) (et_v (ev_fn (ea_c (ev_v 3) (ea_c ev_cint (ea_c (ev_v 0) (ea_c (x := I bs.length) (by rw [lb]; exact ev_lenT (ev_v 1)) ea_nil)))) (fn_body (by omega) q1 (by omega) q3)))) fun _ => et_v (ev_op0 (ev_add ev_cint (ev_fn (ea_c (ev_v 3) ea_nil) (fn_places b (by omega)))) ev_cint fun m => ?_)) rfl) sn_skip, todo, k + 1, _, _, rfl, rfl, fun c hc => e3 c (List.mem_cons_of_mem _ hc)⟩
        show Ab.R.ok (D.bl (decide ((2 : Int) + (szB b : Int) > 40))) m = _
        rw [decide_eq_false (by omega)])
  exact fn_of (sr_seq (sn_ifF t1 sn_skip) (sr_seq (sn_ifF t2 sn_skip) (sr_seq h1 (sr_ret ev_c))))
/-- a new book -/
theorem w_book {m : Mem} {C : Nat} {bs : List (List Stm)} (hC : 1 ≤ C ∧ C ≤ 4) (hb : 1 ≤ bs.length ∧ bs.length ≤ 5) (h : ∀ b ∈ bs, dpB b ≤ 8 ∧ szB b ≤ 38 ∧ okB C bs.length b) {n : Nat} (hn : m[n]? = some (.ins "Book" [])) :
    ∃ m', f_Book_init [.ref n, I C, rtD bs] m = .ok .non m' ∧ m'[n]? = some (.ins "Book" (bookF C bs)) ∧ Kp [n] m m' := by
  obtain ⟨m1, v1, p1⟩ := fn_wrong_part hC hb h m
  have h1 := p1 _ _ hn
  let E (x : Option D) : Env' := [some (.ref n), some (I C), some (rtD bs), x]
  have s1 : sAsg (eCall f_wrong_part (aCons (eVar 1) (aCons (eVar 2) (aNil)))) (gN 3) (E none) m = .nx (E (some .non)) m1 := s_asg (e_call (a_c rfl (a_c rfl rfl)) v1)
  have s3 : sFldS "Book" "cells" (eVar 0) (eVar 1) (E (some .non)) m1 = .nx (E (some .non)) (m1.set n (.ins "Book" [("cells", I C)])) := s_fldS rfl rfl h1 (by simp)
  have h2 : (m1.set n (.ins "Book" [("cells", I C)]))[n]? = some (.ins "Book" [("cells", I C)]) := get_set h1
  have s4 : sFldS "Book" "routines" (eVar 0) (eVar 2) (E (some .non)) (m1.set n (.ins "Book" [("cells", I C)])) = .nx (E (some .non)) ((m1.set n (.ins "Book" [("cells", I C)])).set n (.ins "Book" (bookF C bs))) := s_fldS rfl rfl h2 (by simp)
  refine ⟨_, af_nx (E := E none) rfl (s_seq s1 (s_seq (s_ifF (by exact t_v (e_op rfl rfl rfl)) rfl) (s_seq s3 s4))), get_set h2, fun i c e hi => ?_⟩
  have hne : n ≠ i := fun z => hi (by simp [z])
  rw [List.getElem?_set_ne hne, List.getElem?_set_ne hne]
  exact p1 _ _ e
end Cl
set_option Elab.async false
set_option linter.all false
set_option maxRecDepth 100000
/-! # drawing: what an expression may answer, the hand goes on -/
namespace Cl
open PySem PySem.Spec PyProof.Rows L2 Ab Bk
theorem v_rng {j : Nat} {m : Mem} (h : j < 6000) : rng1 [.int (j : Int)] m = .ok ((List.range j).map fun (i : Nat) => .int (i : Int), []) m := by
  unfold rng1
  dsimp only
  rw [if_pos ⟨by omega, by omega⟩, Int.toNat_natCast]
theorem w_iA {f : List D → Mem → Ab.R (List D × Gd)} {aa : AA} {e : Env'} {m : Mem} : iA f aa e m = (aa e m).bind f := rfl
theorem v_tupL {n : Nat} {m : Mem} {ds : List D} (h : m[n]? = some (.lst ds)) : bTuple [.ref n] m = .ok (.tup ds) m := by
  unfold bTuple itemsD
  simp only [h]
/-- what is walked, no cell watched -/
def EI0 (e : Env') (it : AI) (ds : List D) : Prop := ∀ m, ∃ m', it e m = .ok (ds, []) m' ∧ Pre m m'
theorem EI0.ei {e : Env'} {it : AI} {ds : List D} (h : EI0 e it ds) : EI e it ds := fun m => by
  obtain ⟨m1, h1, p1⟩ := h m
  exact ⟨[], m1, h1, p1, fun _ _ => gd_nil⟩
theorem ei_rng {e : Env'} {a : AE} {v : Nat} (ha : Ev e a (I v)) (hv : v < 6000) : EI0 e (iA rng1 (aCons a aNil)) ((List.range v).map I) := fun m => by
  obtain ⟨m1, h1, p1⟩ := ha m
  exact ⟨m1, by rw [w_iA, a_c h1 rfl, v_bind]; exact v_rng hv, p1⟩
/-- the hand, and cells that stay -/
def Hc (h c : Nat) (L : List (Nat × Cell)) (m : Mem) : Prop := HandC h c m ∧ ∀ q ∈ L, q.1 ≠ h ∧ m[q.1]? = some q.2
theorem HandC.pre {h c : Nat} {m m' : Mem} (H : HandC h c m) (p : Pre m m') : HandC h c m' := by
  obtain ⟨cells, i, big, seed, cnt, h1, h2, h3, h4⟩ := H
  exact ⟨cells, i, big, seed, cnt, p _ _ h1, h2, p _ _ h3, h4⟩
theorem HandC.lt {h c : Nat} {m : Mem} (H : HandC h c m) : h < m.length := by
  obtain ⟨cells, i, big, seed, cnt, h1, h2, h3, h4⟩ := H
  exact (List.getElem?_eq_some_iff.mp h1).1
section
variable {h c : Nat} {L : List (Nat × Cell)} {m m' : Mem} {e e1 e2 : Env'} {a b : AE} {aa : AA} {x y z : D} {P Q R' : D → Prop} {Ps : List D → Prop} {E1 E2 : Env' → Prop} {s s' : AS} {t : AT} {k : Bool} {i : Nat}
theorem Hc.fr (H : Hc h c L m) (f : Fr h m m') (g : HandC h c m') : Hc h c L m' := ⟨g, fun q hq => ⟨(H.2 q hq).1, f _ _ (H.2 q hq).2 (H.2 q hq).1⟩⟩
theorem Hc.pre (H : Hc h c L m) (p : Pre m m') : Hc h c L m' := H.fr p.fr (H.1.pre p)
/-- an expression that may draw -/
def Dr (h c : Nat) (L : List (Nat × Cell)) (e : Env') (a : AE) (Q : D → Prop) : Prop := ∀ m, Hc h c L m → ∃ d m', a e m = .ok d m' ∧ Q d ∧ Fr h m m' ∧ HandC h c m'
def DrA (h c : Nat) (L : List (Nat × Cell)) (e : Env') (a : AA) (Q : List D → Prop) : Prop := ∀ m, Hc h c L m → ∃ d m', a e m = .ok d m' ∧ Q d ∧ Fr h m m' ∧ HandC h c m'
def DrL (h c : Nat) (L : List (Nat × Cell)) (e : Env') (a : AE) (Q : List D → Prop) : Prop := ∀ m, Hc h c L m → ∃ n ds m', a e m = .ok (.ref n) m' ∧ m'[n]? = some (.lst ds) ∧ n ≠ h ∧ Q ds ∧ Fr h m m' ∧ HandC h c m'
def DN (h c : Nat) (L : List (Nat × Cell)) (e : Env') (s : AS) (E : Env' → Prop) : Prop := ∀ m, Hc h c L m → ∃ e' m', s e m = .nx e' m' ∧ E e' ∧ Fr h m m' ∧ HandC h c m'
def DR (h c : Nat) (L : List (Nat × Cell)) (e : Env') (s : AS) (Q : D → Prop) : Prop := ∀ m, Hc h c L m → ∃ d m', s e m = .rt d m' ∧ Q d ∧ Fr h m m' ∧ HandC h c m'
/-- a def that may draw -/
def DF (h c : Nat) (L : List (Nat × Cell)) (f : FL) (ds : List D) (Q : D → Prop) : Prop := ∀ m, Hc h c L m → ∃ d m', f ds m = .ok d m' ∧ Q d ∧ Fr h m m' ∧ HandC h c m'
theorem dr_ev (h1 : Ev e a x) (hq : Q x) : Dr h c L e a Q := fun m H => by
  obtain ⟨m1, v1, p1⟩ := h1 m
  exact ⟨x, m1, v1, hq, p1.fr, H.1.pre p1⟩
theorem dr_is (h1 : Ev e a x) : Dr h c L e a (· = x) := dr_ev h1 rfl
theorem dr_mono (h1 : Dr h c L e a P) (hq : ∀ d, P d → Q d) : Dr h c L e a Q := fun m H => by
  obtain ⟨d, m1, v1, q1, f1, g1⟩ := h1 m H
  exact ⟨d, m1, v1, hq d q1, f1, g1⟩
theorem dra_nil : DrA h c L e aNil (· = []) := fun m H => ⟨[], m, rfl, rfl, .refl, H.1⟩
theorem dra_c (h1 : Dr h c L e a P) (h2 : DrA h c L e aa Ps) : DrA h c L e (aCons a aa) (fun ds => ∃ x xs, ds = x :: xs ∧ P x ∧ Ps xs) := fun m H => by
  obtain ⟨d, m1, v1, q1, f1, g1⟩ := h1 m H
  obtain ⟨ds, m2, v2, q2, f2, g2⟩ := h2 m1 (H.fr f1 g1)
  exact ⟨d :: ds, m2, a_c v1 v2, ⟨d, ds, rfl, q1, q2⟩, f1.trans f2, g2⟩
theorem dr_call {fl : FL} (h1 : DrA h c L e aa Ps) (h2 : ∀ ds, Ps ds → DF h c L fl ds Q) : Dr h c L e (eCall fl aa) Q := fun m H => by
  obtain ⟨ds, m1, v1, q1, f1, g1⟩ := h1 m H
  obtain ⟨d, m2, v2, q2, f2, g2⟩ := h2 ds q1 m1 (H.fr f1 g1)
  exact ⟨d, m2, e_call v1 v2, q2, f1.trans f2, g2⟩
/-- a call, its arguments given -/
theorem dr_fn {fl : FL} {ds : List D} (h1 : EvA e aa ds) (h2 : DF h c L fl ds Q) : Dr h c L e (eCall fl aa) Q := fun m H => by
  obtain ⟨m1, v1, p1⟩ := h1 m
  obtain ⟨d, m2, v2, q2, f2, g2⟩ := h2 m1 (H.pre p1)
  exact ⟨d, m2, e_call v1 v2, q2, p1.fr.trans f2, g2⟩
theorem dr_op {f : F2} (h1 : Dr h c L e a P) (h2 : Dr h c L e b Q) (h3 : ∀ x y m, P x → Q y → ∃ z, f x y m = .ok z m ∧ R' z) : Dr h c L e (eOp f a b) R' := fun m H => by
  obtain ⟨d, m1, v1, q1, f1, g1⟩ := h1 m H
  obtain ⟨d2, m2, v2, q2, f2, g2⟩ := h2 m1 (H.fr f1 g1)
  obtain ⟨z, h3, h4⟩ := h3 d d2 m2 q1 q2
  exact ⟨z, m2, e_op v1 v2 h3, h4, f1.trans f2, g2⟩
theorem dr_tup (h1 : DrA h c L e aa Ps) (hl : ∀ ds, Ps ds → ds.length ≤ sizeLine) : Dr h c L e (eCall mkTup aa) (fun d => ∃ ds, d = .tup ds ∧ Ps ds) := dr_call h1 fun ds hds m H => ⟨.tup ds, m, v_tup (hl ds hds), ⟨ds, rfl, hds⟩, .refl, H.1⟩
theorem dr_ifT (h1 : Et e t true) (h2 : Dr h c L e a Q) : Dr h c L e (eIf t a b) Q := fun m H => by
  obtain ⟨m1, v1, p1⟩ := h1 m
  obtain ⟨d, m2, v2, q2, f2, g2⟩ := h2 m1 (H.pre p1)
  exact ⟨d, m2, by rw [e_ifT v1, v2], q2, p1.fr.trans f2, g2⟩
theorem dr_ifF (h1 : Et e t false) (h2 : Dr h c L e b Q) : Dr h c L e (eIf t a b) Q := fun m H => by
  obtain ⟨m1, v1, p1⟩ := h1 m
  obtain ⟨d, m2, v2, q2, f2, g2⟩ := h2 m1 (H.pre p1)
  exact ⟨d, m2, by rw [e_ifF v1, v2], q2, p1.fr.trans f2, g2⟩
/-! statements -/
theorem dn_asg (h1 : Dr h c L e a Q) : DN h c L e (sAsg a (gN i)) (fun e' => ∃ d, Q d ∧ e' = e.set i (some d)) := fun m H => by
  obtain ⟨d, m1, v1, q1, f1, g1⟩ := h1 m H
  exact ⟨_, m1, s_asg v1, ⟨d, q1, rfl⟩, f1, g1⟩
theorem dn_sn (h1 : SN e s e1) (hE : E1 e1) : DN h c L e s E1 := fun m H => by
  obtain ⟨m1, v1, p1⟩ := h1 m
  exact ⟨_, m1, v1, hE, p1.fr, H.1.pre p1⟩
theorem dn_skip : DN h c L e sSkip (· = e) := dn_sn sn_skip rfl
theorem dr_ret (h1 : Dr h c L e a Q) : DR h c L e (sRet a) Q := fun m H => by
  obtain ⟨d, m1, v1, q1, f1, g1⟩ := h1 m H
  exact ⟨d, m1, s_ret v1, q1, f1, g1⟩
theorem dr_seq (h1 : DN h c L e s E1) (h2 : ∀ e', E1 e' → DR h c L e' s' Q) : DR h c L e (sSeq s s') Q := fun m H => by
  obtain ⟨e', m1, v1, q1, f1, g1⟩ := h1 m H
  obtain ⟨d, m2, v2, q2, f2, g2⟩ := h2 e' q1 m1 (H.fr f1 g1)
  exact ⟨d, m2, s_seq v1 v2, q2, f1.trans f2, g2⟩
theorem dr_seqR (h1 : DR h c L e s Q) : DR h c L e (sSeq s s') Q := fun m H => by
  obtain ⟨d, m1, v1, q1, f1, g1⟩ := h1 m H
  exact ⟨d, m1, s_seqR v1, q1, f1, g1⟩
theorem dn_seq (h1 : DN h c L e s E1) (h2 : ∀ e', E1 e' → DN h c L e' s' E2) : DN h c L e (sSeq s s') E2 := fun m H => by
  obtain ⟨e', m1, v1, q1, f1, g1⟩ := h1 m H
  obtain ⟨d, m2, v2, q2, f2, g2⟩ := h2 e' q1 m1 (H.fr f1 g1)
  exact ⟨d, m2, s_seq v1 v2, q2, f1.trans f2, g2⟩
theorem dr_if (h1 : Et e t k) (h2 : k = true → DR h c L e s Q) (h3 : k = false → DR h c L e s' Q) : DR h c L e (sIf t s s') Q := fun m H => by
  obtain ⟨m1, v1, p1⟩ := h1 m
  cases k with
  | true =>
    obtain ⟨d, m2, v2, q2, f2, g2⟩ := h2 rfl m1 (H.pre p1)
    exact ⟨d, m2, s_ifT v1 v2, q2, p1.fr.trans f2, g2⟩
  | false =>
    obtain ⟨d, m2, v2, q2, f2, g2⟩ := h3 rfl m1 (H.pre p1)
    exact ⟨d, m2, s_ifF v1 v2, q2, p1.fr.trans f2, g2⟩
/-- if so, it returns; if not, it goes on -/
theorem dr_ret_or (h1 : Et e t k) (h2 : k = true → DR h c L e s Q) (h3 : k = false → DR h c L e s' Q) : DR h c L e (sSeq (sIf t s sSkip) s') Q := fun m H => by
  obtain ⟨m1, v1, p1⟩ := h1 m
  cases k with
  | true =>
    obtain ⟨d, m2, v2, q2, f2, g2⟩ := h2 rfl m1 (H.pre p1)
    exact ⟨d, m2, s_seqR (s_ifT v1 v2), q2, p1.fr.trans f2, g2⟩
  | false =>
    obtain ⟨d, m2, v2, q2, f2, g2⟩ := h3 rfl m1 (H.pre p1)
    exact ⟨d, m2, s_seq (s_ifF v1 rfl) v2, q2, p1.fr.trans f2, g2⟩
theorem df_of {n : Nat} {as : AS} {ds : List D} (h1 : DR h c L (ds.map some ++ List.replicate (n - ds.length) none) as Q) : DF h c L (afOf n as) ds Q := fun m H => by
  obtain ⟨d, m1, v1, q1, f1, g1⟩ := h1 m H
  exact ⟨d, m1, af_rt rfl v1, q1, f1, g1⟩
theorem df_mono {f : FL} {ds : List D} (h1 : DF h c L f ds P) (hq : ∀ d, P d → Q d) : DF h c L f ds Q := fun m H => by
  obtain ⟨d, m1, v1, q1, f1, g1⟩ := h1 m H
  exact ⟨d, m1, v1, hq d q1, f1, g1⟩
/-- a comprehension, all of it kept -/
theorem drl_lc {it : AI} {tg : AG} {el : AE} {vs : List Nat} {ds : List D} (hi : EI0 e it ds) (hl : ds.length < 2 ^ 24) (hs : ∀ d ∈ ds, ∃ e2, (∀ m, tg d (wipeE e vs) m = .ok e2 m) ∧ Dr h c L e2 el Q) : DrL h c L e (eLc it tg tYesA el vs) (fun xs => xs.length = ds.length ∧ ∀ x ∈ xs, Q x) := fun m H => by
  obtain ⟨m1, v1, p1⟩ := hi m
  have H1 := H.pre p1
  have hlt := H1.1.lt
  obtain ⟨acc, m', w1, w2, w3, w4⟩ := lc_inv (it := it) (tg := tg) (tt := tYesA) (el := el) (vs := vs) (e := e) (m := m) (m1 := m1) (ds := ds) (gd := [])
    (fun rest acc mm => (∀ d ∈ rest, d ∈ ds) ∧ (∀ x ∈ acc, Q x) ∧ (∀ i c, m1[i]? = some c → i ≠ h → mm[i]? = some c) ∧ HandC h c mm ∧ m1.length < mm.length) v1 hl
    ⟨fun d hd => hd, fun x hx => (by cases hx), fun i cc e _ => Pre.add _ _ e, H1.1.pre .add, by simp⟩
    (fun d rest acc mm hI hk => by
      obtain ⟨i1, i2, i3, i4, i5⟩ := hI
      obtain ⟨e2, t1, t2⟩ := hs d (i1 d List.mem_cons_self)
      obtain ⟨x, m2, v2, q2, f2, g2⟩ := t2 mm ⟨i4, fun q hq => ⟨(H1.2 q hq).1, i3 _ _ (H1.2 q hq).2 (H1.2 q hq).1⟩⟩
      refine ⟨gd_nil, e2, x, m2, t1 mm, rfl, v2, f2 _ _ hk (by omega), fun d hd => i1 d (List.mem_cons_of_mem _ hd), fun y hy => ?_, fun i cc ei hi => ?_, ?_, ?_⟩
      · rcases List.mem_append.mp hy with hy | hy
        · exact i2 y hy
        · rw [List.mem_singleton] at hy; subst hy; exact q2
      · have := (List.getElem?_eq_some_iff.mp ei).1
        rw [List.getElem?_set_ne (by omega)]
        exact f2 _ _ (i3 _ _ ei hi) hi
      · obtain ⟨cells', i', big', seed', cnt', h1', h2', h3', h4'⟩ := H1.1
        have hcl := (List.getElem?_eq_some_iff.mp h3').1
        obtain ⟨cells, i, big, seed, cnt, h1, h2, h3, h4⟩ := g2
        exact ⟨cells, i, big, seed, cnt, by rw [List.getElem?_set_ne (by omega)]; exact h1, h2, by rw [List.getElem?_set_ne (by omega)]; exact h3, h4⟩
      · rw [List.length_set]
        exact (List.getElem?_eq_some_iff.mp (f2 _ _ hk (by omega))).1)
    (fun acc mm hI => gd_nil)
  exact ⟨m1.length, acc, m', w1, w3, by omega, ⟨w4, w2.2.1⟩, fun i cc ei hi => w2.2.2.1 i cc (p1 _ _ ei) hi, w2.2.2.2.1⟩
/-- tuple(of a new list) -/
theorem dr_tupL {Ps : List D → Prop} (h1 : DrL h c L e a Ps) : Dr h c L e (eCall bTuple (aCons a aNil)) (fun d => ∃ ds, d = .tup ds ∧ Ps ds) := fun m H => by
  obtain ⟨n, ds, m1, v1, k1, n1, q1, f1, g1⟩ := h1 m H
  exact ⟨.tup ds, m1, e_call (a_c v1 rfl) (v_tupL k1), ⟨ds, rfl, q1⟩, f1, g1⟩
theorem drl_ev {ds : List D} (h1 : EvL e a ds) : DrL h c L e a (· = ds) := fun m H => by
  obtain ⟨n, m1, v1, p1, k1, n1⟩ := h1 m
  have := H.1.lt
  exact ⟨n, ds, m1, v1, k1, by omega, rfl, p1.fr, H.1.pre p1⟩
/-- a draw -/
theorem df_draw {v : Nat} (h0 : 0 < v) (h1 : v < 1000000) : DF h c L f_law_draw [.ref h, I v] (fun d => ∃ n : Nat, d = I n ∧ n < v) := fun m H => by
  obtain ⟨d, m1, v1, n, e1, l1, f1, g1⟩ := ok_ex (w_drawC H.1 (many := (v : Int)) (by omega) (by omega))
  exact ⟨d, m1, v1, ⟨n, e1, by omega⟩, f1, g1⟩
/-- one of some -/
theorem df_any {n : Nat} {ds : List D} (H : Hc h c L m) (hn : m[n]? = some (.lst ds)) (hnh : n ≠ h) (h0 : ds ≠ []) (h1 : ds.length < 1000000) : ∃ d m', f_law_any [.ref h, .ref n] m = .ok d m' ∧ d ∈ ds ∧ Fr h m m' ∧ HandC h c m' := by
  have h0' : 0 < ds.length := List.length_pos_iff.mpr h0
  obtain ⟨d, m1, v1, ⟨i, rfl, l1⟩, f1, g1⟩ := df_draw (c := c) (L := L) h0' h1 m H
  have hi : ds[i]? = some ds[i] := List.getElem?_eq_getElem l1
  refine ⟨ds[i], m1, ?_, List.getElem_mem l1, f1, g1⟩
  unfold f_law_any
  refine af_rt (E := [some (.ref h), some (.ref n)]) rfl (s_ret (e_op rfl (e_call (a_c rfl (a_c (e_call (a_c rfl rfl) (v_lenL hn)) rfl)) v1) ?_))
  exact v_ixL (f1 _ _ hn hnh) (atI_nat hi)
theorem dr_any {ds : List D} (h0 : e[0]? = some (some (.ref h))) (h1 : EvL e a ds) (h2 : ds ≠ []) (h3 : ds.length < 1000000) : Dr h c L e (eCall f_law_any (aCons (eVar 0) (aCons a aNil))) (· ∈ ds) := fun m H => by
  obtain ⟨n, m1, v1, p1, k1, n1⟩ := h1 m
  have := H.1.lt
  obtain ⟨d, m2, v2, q2, f2, g2⟩ := df_any (H.pre p1) k1 (by omega) h2 h3
  exact ⟨d, m2, e_call (a_c (v_var h0) (a_c v1 rfl)) v2, q2, p1.fr.trans f2, g2⟩
theorem ints_of {P : Int → Prop} : ∀ {ds : List D}, (∀ d ∈ ds, ∃ i, d = .int i ∧ P i) → ∃ s : List Int, ds = s.map D.int ∧ ∀ i ∈ s, P i
  | [], _ => ⟨[], rfl, fun i h => by cases h⟩
  | d :: ds, h => by
    obtain ⟨i, rfl, hi⟩ := h d List.mem_cons_self
    obtain ⟨s, rfl, hs⟩ := ints_of fun d hd => h d (List.mem_cons_of_mem _ hd)
    exact ⟨i :: s, rfl, fun j hj => by rcases List.mem_cons.mp hj with rfl | hj; exact hi; exact hs j hj⟩
end
end Cl
set_option Elab.async false
set_option linter.all false
set_option maxRecDepth 100000
/-! # drawing: sums, tests -/
namespace Cl
open PySem PySem.Spec PyProof.Rows L2 Ab Bk
section
variable {h c : Nat} {L : List (Nat × Cell)} {m m' : Mem} {e e1 e2 : Env'} {a b : AE} {aa : AA} {x y z : D} {P Q R' : D → Prop} {Ps : List D → Prop} {E1 E2 : Env' → Prop} {s s' : AS} {t : AT} {k : Bool} {i : Nat}
theorem ev_inc {j : Nat} (ha : Ev e a (I j)) : Ev e (eOp dAdd a (eC (.int 1))) (I (j + 1)) := ev_op0 ha ev_c fun m => rfl
theorem dr_opM {f : F2} (h1 : Dr h c L e a P) (h2 : Dr h c L e b Q) (h3 : ∀ x y m, Hc h c L m → P x → Q y → ∃ z, f x y m = .ok z m ∧ R' z) : Dr h c L e (eOp f a b) R' := fun m H => by
  obtain ⟨d, m1, v1, q1, f1, g1⟩ := h1 m H
  have H1 := H.fr f1 g1
  obtain ⟨d2, m2, v2, q2, f2, g2⟩ := h2 m1 H1
  obtain ⟨z, h3, h4⟩ := h3 d d2 m2 (H1.fr f2 g2) q1 q2
  exact ⟨z, m2, e_op v1 v2 h3, h4, f1.trans f2, g2⟩
def sumQ (C : Nat) (d : D) : Prop := ∃ s, d = smD s ∧ okSum C s
def coefs : List Int := [0, 0, 1, -1, 2, -2, 3, 1000, -1000, 7]
theorem df_sum {C : Nat} (hC : C < 900) : DF h c L f_law_sum [.ref h, I C] (sumQ C) := fun m H => by
  let E (x y : Option D) : Env' := [some (.ref h), some (I C), x, y]
  have e1 : EvL (E none none) (eCall mkLst (aCons (eC (.int 0)) (aCons (eC (.int 0)) (aCons (eC (.int 1)) (aCons (eUn dNeg (eC (.int 1))) (aCons (eC (.int 2)) (aCons (eUn dNeg (eC (.int 2))) (aCons (eC (.int 3)) (aCons (eC (.int 1000)) (aCons (eUn dNeg (eC (.int 1000))) (aCons (eC (.int 7)) (aNil)))))))))))) (coefs.map D.int) := by
    refine ev_lst (ea_c ev_cint (ea_c ev_cint (ea_c ev_cint (ea_c ev_neg (ea_c ev_cint (ea_c ev_neg (ea_c ev_cint (ea_c ev_cint (ea_c ev_neg (ea_c ev_cint ea_nil)))))))))) (by exact Nat.le_of_ble_eq_true rfl)
  obtain ⟨n, m1, v1, p1, k1, n1⟩ := e1 m
  have hlt := H.1.lt
  have H1 : Hc h c ((n, .lst (coefs.map D.int)) :: L) m1 := ⟨H.1.pre p1, fun q hq => by
    rcases List.mem_cons.mp hq with rfl | hq
    · exact ⟨by show n ≠ h; omega, k1⟩
    · exact (H.pre p1).2 q hq⟩
  have el : ∀ x : D, Dr h c ((n, .lst (coefs.map D.int)) :: L) (E (some (.ref n)) (some x)) (eOp dIx (eVar 2) (eCall f_law_draw (aCons (eVar 0) (aCons (eCall f_law_any (aCons (eVar 0) (aCons (eCall mkLst (aCons (eC (.int 3)) (aCons (eC (.int 5)) (aCons (eC (.int 7)) (aCons (eC (.int 10)) (aNil)))))) (aNil)))) (aNil))))) (fun d => ∃ i, d = .int i ∧ (-1000 ≤ i ∧ i ≤ 1000)) := fun x => by
    refine dr_opM (dr_is (ev_v 2)) (Q := fun d => ∃ j : Nat, d = I j ∧ j < 10) (dr_call (dra_c (dr_is (ev_v 0)) (dra_c (dr_any (ds := [.int 3, .int 5, .int 7, .int 10]) rfl (ev_lst (ea_c ev_cint (ea_c ev_cint (ea_c ev_cint (ea_c ev_cint ea_nil)))) (by exact Nat.le_of_ble_eq_true rfl)) (by simp) (by simp)) dra_nil)) fun ds hds => ?_) fun x y m H hx hy => ?_
    · obtain ⟨_, _, rfl, rfl, y, _, rfl, hy, rfl⟩ := hds
      obtain ⟨v, rfl, v0, v1⟩ : ∃ v : Nat, y = I v ∧ 0 < v ∧ v ≤ 10 := by
        simp only [List.mem_cons, List.not_mem_nil, or_false] at hy
        rcases hy with rfl | rfl | rfl | rfl
        · exact ⟨3, rfl, by omega, by omega⟩
        · exact ⟨5, rfl, by omega, by omega⟩
        · exact ⟨7, rfl, by omega, by omega⟩
        · exact ⟨10, rfl, by omega, by omega⟩
      exact df_mono (df_draw v0 (by omega)) fun d ⟨n, e, l⟩ => ⟨n, e, by omega⟩
    · subst hx
      obtain ⟨j, rfl, hj⟩ := hy
      have hl : (H.2 (n, .lst (coefs.map D.int)) List.mem_cons_self).2 = (H.2 (n, .lst (coefs.map D.int)) List.mem_cons_self).2 := rfl
      have hm : m[n]? = some (.lst (coefs.map D.int)) := (H.2 (n, .lst (coefs.map D.int)) List.mem_cons_self).2
      have hj2 : j < coefs.length := hj
      refine ⟨.int coefs[j], v_ixL hm (atI_nat (by rw [List.getElem?_map, List.getElem?_eq_getElem hj2]; rfl)), _, rfl, ?_⟩
      have : ∀ i ∈ coefs, -1000 ≤ i ∧ i ≤ 1000 := by decide
      exact this _ (List.getElem_mem hj2)
  have e2 := dr_tupL (drl_lc (tg := gN 3) (vs := [3]) (e := E (some (.ref n)) none) (ei_rng (v := C + 1) (e := E (some (.ref n)) none) (ev_inc (ev_v 1)) (by omega)) (by simp; omega) fun d hd => ⟨E (some (.ref n)) (some d), fun m => rfl, el d⟩)
  obtain ⟨d, m2, v2, ⟨ds, rfl, q1, q2⟩, f2, g2⟩ := e2 m1 H1
  obtain ⟨s, rfl, hs⟩ := ints_of q2
  refine ⟨smD s, m2, af_rt (E := E none none) rfl (s_seq (s_asg v1) (s_ret v2)), ⟨s, rfl, by simpa using q1, hs⟩, p1.fr.trans f2, g2⟩
def alone (C cell : Nat) (n : Int) : List Int := ((List.range C).map fun i => if i = cell then 1 else 0) ++ [n]
theorem ok_alone {C cell : Nat} {n : Int} (hn : -1000 ≤ n ∧ n ≤ 1000) : okSum C (alone C cell n) := ⟨by simp [alone], fun i hi => by
  unfold alone at hi
  rcases List.mem_append.mp hi with hi | hi
  · obtain ⟨j, _, rfl⟩ := List.mem_map.mp hi
    split <;> omega
  · rw [List.mem_singleton] at hi; omega⟩
theorem fn_alone {C cell : Nat} {n : Int} (hC : C < 900) : Fn f_law_alone [I C, I cell, .int n] (smD (alone C cell n)) := by
  have h1 : Ev [some (I C), some (I cell), some (.int n), none] (eCall bTuple (aCons (eLc (iA rng1 (aCons (eVar 0) (aNil))) (gN 3) (tYesA) (eCall bInt (aCons (eOp dEq (eVar 3) (eVar 1)) (aNil))) [3]) (aNil))) (.tup ((List.range C).map fun i => .int (if i = cell then 1 else 0))) :=
    ev_tupL (ev_lc0 I (List.range C) (fun i => .int (if i = cell then 1 else 0)) (ei_rng (ev_v 0) (by omega)).ei (by simp; omega) fun i hi => ⟨[some (I C), some (I cell), some (.int n), some (I i)], fun m => rfl, ev_call0 (ea_c (ev_eqI (k := decide (i = cell)) (ev_v 3) (ev_v 1) (decide_eq_decide.mpr (by omega))) ea_nil) fun m => by
      show Ab.R.ok (D.int (if decide (i = cell) = true then 1 else 0)) m = _
      by_cases z : i = cell
      · rw [if_pos z, if_pos (decide_eq_true z)]
      · rw [if_neg z, if_neg (by simpa using z)]⟩)
  have h2 := fn_of (n := 4) (as := a_law_alone) (ds := [I C, I cell, .int n]) (sr_ret (ev_op0 h1 (ev_tup (ea_c (ev_v 2) ea_nil) (by exact Nat.le_of_ble_eq_true rfl)) fun m => v_catT (by simp; show _ ≤ 16777216; omega)))
  have e : smD (alone C cell n) = .tup (((List.range C).map fun i => .int (if i = cell then 1 else 0)) ++ [.int n]) := by
    unfold smD alone
    simp
  rw [e]
  exact h2
def testQ (C : Nat) (d : D) : Prop := ∃ w a b, d = tsD w a b ∧ okSum C a ∧ okSum C b
theorem df_test {C : Nat} (hC : C < 900) : DF h c L f_law_test [.ref h, I C] (testQ C) := by
  have hs : Dr h c L [some (.ref h), some (I C)] (eCall f_law_sum (aCons (eVar 0) (aCons (eVar 1) (aNil)))) (sumQ C) := dr_fn (ea_c (ev_v 0) (ea_c (ev_v 1) ea_nil)) (df_sum hC)
  refine df_of (dr_ret (dr_mono (dr_tup (dra_c (dr_any (ds := [.str "less", .str "less", .str "same"]) rfl (ev_lst (ea_c ev_c (ea_c ev_c (ea_c ev_c ea_nil))) (by exact Nat.le_of_ble_eq_true rfl)) (by simp) (by simp)) (dra_c hs (dra_c hs dra_nil))) fun ds hds => ?_) fun d hd => ?_))
  · obtain ⟨_, _, rfl, _, _, _, rfl, _, _, _, rfl, _, rfl⟩ := hds
    exact Nat.le_of_ble_eq_true rfl
  · obtain ⟨_, rfl, x, _, rfl, hx, _, _, rfl, ⟨a, rfl, ha⟩, _, _, rfl, ⟨b, rfl, hb⟩, rfl⟩ := hd
    simp only [List.mem_cons, List.not_mem_nil, or_false] at hx
    rcases hx with rfl | rfl | rfl
    · exact ⟨true, a, b, rfl, ha, hb⟩
    · exact ⟨true, a, b, rfl, ha, hb⟩
    · exact ⟨false, a, b, rfl, ha, hb⟩
end
end Cl
set_option Elab.async false
set_option linter.all false
set_option maxRecDepth 100000
/-! # the size of a body, as the law counts it -/
namespace Cl
open PySem PySem.Spec PyProof.Rows L2 Ab Bk
theorem v_inL2 {x a b : Str} {m : Mem} {n : Nat} (hn : m[n]? = some (.lst [.str a, .str b])) (hx : PyData.strOk x = true) (ha : PyData.strOk a = true) (hb : PyData.strOk b = true) : dIn (.str x) (.ref n) m = .ok (.bl (decide (a = x) || decide (b = x))) m := by
  unfold dIn dIn0
  have e1 : toP m DEEP (.ref n) = some (.list [.str a, .str b]) := by
    show (match m[n]? with | some (.lst ds) => (ds.mapM (toP m 69)).map PyData.list | some (.rol ds) => (ds.mapM (toP m 69)).map PyData.list | _ => none) = _
    rw [hn]; rfl
  have e2 : toP m DEEP (.str x) = some (.str x) := rfl
  simp only [hn]
  rw [e1, e2]
  dsimp only
  have s1 : SeqAt.shaped (.str x) = true := canS1 x hx
  have s2 : SeqAt.shaped (.list [.str a, .str b]) = true := by
    have ha' := canS1 a ha
    have hb' := canS1 b hb
    simp [SeqAt.shaped, PyData.canLay0, PyData.canLayAll0, PyData.depth, PyData.depthAll] at ha' hb' ⊢
    exact ⟨ha', hb'⟩
  rw [if_pos ⟨s1, s2⟩]
  simp [eqvStr]
def isN : Stm → Bool
  | .ifs _ _ _ _ _ => true
  | .whl _ _ _ _ => true
  | _ => false
def inn : Stm → List (List Stm)
  | .ifs _ _ _ x y => [x, y]
  | .whl _ _ _ x => [x]
  | _ => []
def base : Stm → Nat
  | .ifs _ _ _ _ _ => 2
  | _ => 1
theorem szS_inn (s : Stm) : szS s = base s + ((inn s).map szB).sum := by cases s <;> simp [szS, base, inn] <;> omega
theorem dp_inn {s : Stm} {b : List Stm} (h : b ∈ inn s) : dpB b ≤ dpS s := by
  cases s <;> simp only [inn, List.mem_cons, List.not_mem_nil, or_false] at h
  · rcases h with rfl | rfl <;> simp only [dpS] <;> omega
  · subst h; simp only [dpS]; omega
theorem tup_inn (s : Stm) : ∃ ds, stD s = .tup ds ∧ atI ds 0 = some (.str (wdS s)) ∧ (ds.drop 2).filter (fun _ => isN s) = (inn s).map fun b => .tup (bdD b) := by
  cases s <;> exact ⟨_, rfl, rfl, rfl⟩
theorem isN_wd (s : Stm) : (decide (("if" : Str) = wdS s) || decide (("while" : Str) = wdS s)) = isN s := by cases s <;> rfl
theorem base_wd (s : Stm) : (if decide (wdS s = ("if" : Str)) = true then (2 : Int) else 1) = base s := by cases s <;> rfl
/-- what is done for each statement -/
noncomputable def szL (r : AF) : AS :=
    (sSeq (sAsg (eLc (iE (eSl (eVar 2) (oSome (eC (.int 2))) (oNone))) (gN 4) (tVal (eOp dIn (eOp dIx (eVar 2) (eC (.int 0))) (eCall mkLst (aCons (eC (.str "if")) (aCons (eC (.str "while")) (aNil)))))) (eVar 4) [4]) (gN 3))
    (sAsg (eOp dAdd (eOp dAdd (eVar 1) (eIf (tVal (eOp dEq (eOp dIx (eVar 2) (eC (.int 0))) (eC (.str "if")))) (eC (.int 2)) (eC (.int 1)))) (eCall bSumB (aCons (eLc (iE (eVar 3)) (gN 4) (tYesA) (eCall r (aCons (eVar 4) (aNil))) [4]) (aNil)))) (gN 1)))
theorem w_szL {r : AF} {s : Stm} (hr : ∀ b ∈ inn s, Fn r [.tup (bdD b)] (I (szB b))) (bd : D) (n : Nat) (x3 x4 : Option D) (m : Mem) : ∃ k m', szL r [some bd, some (I n), some (stD s), x3, x4] m = .nx [some bd, some (I (n + szS s)), some (stD s), some (.ref k), x4] m' ∧ Pre m m' := by
  obtain ⟨ds, e1, e2, e3⟩ := tup_inn s
  let E (n : Nat) (x3 x4 : Option D) : Env' := [some bd, some (I n), some (stD s), x3, x4]
  have hin : (inn s).length < 2 ^ 24 := by cases s <;> (show _ < 16777216) <;> simp [inn]
  have hds : (ds.drop 2).length < 2 ^ 24 := by cases s <;> cases e1 <;> (show _ < 16777216) <;> simp
  have l1 : EvL (E n x3 x4) (eLc (iE (eSl (eVar 2) (oSome (eC (.int 2))) (oNone))) (gN 4) (tVal (eOp dIn (eOp dIx (eVar 2) (eC (.int 0))) (eCall mkLst (aCons (eC (.str "if")) (aCons (eC (.str "while")) (aNil)))))) (eVar 4) [4]) (((ds.drop 2).filter fun _ => isN s).map id) := by
    refine ev_lc (fun d => d) (ds.drop 2) (fun _ => isN s) id (by rw [List.map_id']; exact ei_tup (by rw [← cut_hi ds 2]; exact ev_sl (by rw [← e1]; exact ev_v 2) (eo_s ev_cint) eo_n)) hds fun d hd => ⟨E n x3 (some d), fun m => rfl, et_v (ev_opL (ds := [.str "if", .str "while"]) (x := .str (wdS s)) ?_ (ev_lst (ea_c ev_c (ea_c ev_c ea_nil)) (by exact Nat.le_of_ble_eq_true rfl)) fun m n hn => ?_), fun _ => ev_v 4⟩
    · exact ev_ix (by rw [← e1]; exact ev_v 2) ev_cint e2
    · rw [v_inL2 hn (ok_wdS s) ok_if ok_while, isN_wd]
  rw [e3, List.map_id] at l1
  obtain ⟨k, m1, v1, p1, k1, n1⟩ := l1 m
  have hb : eIf (tVal (eOp dEq (eOp dIx (eVar 2) (eC (.int 0))) (eC (.str "if")))) (eC (.int 2)) (eC (.int 1)) (E n (some (.ref k)) x4) m1 = .ok (.int (base s)) m1 := by
    have t := w_wd (i := 2) (e := E n (some (.ref k)) x4) (m := m1) (s := s) rfl ok_if
    rw [← base_wd]
    by_cases z : decide (wdS s = ("if" : Str)) = true
    · rw [z] at t
      rw [if_pos z, e_ifT t]; rfl
    · have z2 : decide (wdS s = ("if" : Str)) = false := by cases y : decide (wdS s = ("if" : Str)) with | true => exact absurd y z | false => rfl
      rw [z2] at t
      rw [if_neg z, e_ifF t]; rfl
  obtain ⟨m2, v2, p2, k2⟩ := lc_grow (it := iE (eVar 3)) (tg := gN 4) (tt := tYesA) (el := eCall r (aCons (eVar 4) (aNil))) (vs := [4]) (e := E n (some (.ref k)) x4) (m := m1) (m1 := m1) (gd := [(k, .lst ((inn s).map fun b => .tup (bdD b)))]) (fun b => D.tup (bdD b)) (inn s) (fun _ => true) (fun b => I (szB b))
    (by rw [w_iE]; show (Ab.R.ok (D.ref k) m1).bind itD = _; rw [v_bind]; unfold itD; simp only [k1]) rfl (fun p hp => by rw [List.mem_singleton] at hp; subst hp; exact k1) hin (fun b hb m' pm => by
      obtain ⟨m3, v3, p3⟩ := hr b hb m'
      exact ⟨E n (some (.ref k)) (some (.tup (bdD b))), m', rfl, rfl, .refl, fun _ => ⟨m3, e_call (a_c rfl rfl) v3, p3⟩⟩)
  have fe : (inn s).filter (fun _ => true) = inn s := List.filter_eq_self.mpr fun _ _ => rfl
  rw [fe] at k2
  have v3 : eCall bSumB (aCons (eLc (iE (eVar 3)) (gN 4) (tYesA) (eCall r (aCons (eVar 4) (aNil))) [4]) aNil) (E n (some (.ref k)) x4) m1 = .ok (.int ((inn s).map fun b => (szB b : Int)).sum) m2 :=
    e_call (a_c v2 rfl) (v_sumL (ns := (inn s).map fun b => (szB b : Int)) (by rw [k2, List.map_map]; rfl))
  have es : (n : Int) + (base s : Int) + ((inn s).map fun b => (szB b : Int)).sum = ((n + szS s : Nat) : Int) := by
    have : ∀ l : List (List Stm), (l.map fun b => (szB b : Int)).sum = (((l.map szB).sum : Nat) : Int) := by
      intro l
      induction l with
      | nil => rfl
      | cons a l ih => simp only [List.map_cons, List.sum_cons, ih]; omega
    rw [this, szS_inn]; omega
  refine ⟨k, m2, s_seq (s_asg v1) (s_asg (e := E n (some (.ref k)) x4) (e_op (x := .int ((n : Int) + base s)) (e_op rfl hb rfl) v3 (r := .ok (I (n + szS s)) m2) ?_)), p1.trans p2⟩
  show Ab.R.ok (D.int ((n : Int) + (base s : Int) + ((inn s).map fun b => (szB b : Int)).sum)) m2 = _
  rw [es]; rfl
theorem fn_size_of {k : Nat} {b : List Stm} (h : ∀ s ∈ b, ∀ u ∈ inn s, Fn (f_law_size k) [.tup (bdD u)] (I (szB u))) : Fn (f_law_size (k + 1)) [.tup (bdD b)] (I (szB b)) := by
  have key : ∀ (todo : List Stm) (n : Nat) (x2 x3 x4 : Option D) (m : Mem), (∀ s ∈ todo, s ∈ b) → ∃ x2' x3' x4' m', forL (gN 2) (szL (f_law_size k)) [] (bdD todo) [some (.tup (bdD b)), some (I n), x2, x3, x4] m = .nx [some (.tup (bdD b)), some (I (n + szB todo)), x2', x3', x4'] m' ∧ Pre m m' := by
    intro todo
    induction todo with
    | nil => exact fun n x2 x3 x4 m _ => ⟨x2, x3, x4, m, forL_nil gd_nil, .refl⟩
    | cons s todo ih =>
      intro n x2 x3 x4 m hb
      obtain ⟨k1, m1, v1, p1⟩ := w_szL (r := f_law_size k) (h s (hb s List.mem_cons_self)) (.tup (bdD b)) n x3 x4 m
      obtain ⟨y2, y3, y4, m2, v2, p2⟩ := ih (n + szS s) (some (stD s)) (some (.ref k1)) x4 m1 fun t ht => hb t (List.mem_cons_of_mem _ ht)
      refine ⟨y2, y3, y4, m2, ?_, p1.trans p2⟩
      rw [show bdD (s :: todo) = stD s :: bdD todo from by simp [bdD], forL_nx gd_nil rfl v1, v2]
      rw [show n + szB (s :: todo) = n + szS s + szB todo from by simp only [szB]; omega]
  rw [show f_law_size (k + 1) = afOf 5 (a_law_size (f_law_size k)) from rfl]
  refine fn_of fun m => ?_
  obtain ⟨y2, y3, y4, m2, v2, p2⟩ := key b 0 none none none m fun s hs => hs
  rw [Nat.zero_add] at v2
  refine ⟨m2, s_seq (s_asg rfl) (s_seq (e1 := [some (.tup (bdD b)), some (I (szB b)), y2, y3, y4]) ?_ (s_ret rfl)), p2⟩
  rw [w_for, w_iE]
  exact v2
theorem dp_mem : ∀ {b : List Stm} {s : Stm}, s ∈ b → 1 + dpS s ≤ dpB b
  | t :: b, s, h => by
    simp only [dpB]
    rcases List.mem_cons.mp h with rfl | h
    · omega
    · have := dp_mem h; omega
theorem fn_size : ∀ (k : Nat) (b : List Stm), dpB b ≤ k → Fn (f_law_size k) [.tup (bdD b)] (I (szB b))
  | 0, b, h => by have := dpB_pos b; omega
  | k + 1, b, h => fn_size_of fun s hs u hu => fn_size k u (by
      have h1 := dp_inn hu
      have h2 : 1 + dpS s ≤ dpB b := dp_mem hs
      omega)
end Cl
set_option Elab.async false
set_option linter.all false
set_option maxRecDepth 100000
/-! # drawing: statements, bodies, parts -/
namespace Cl
open PySem PySem.Spec PyProof.Rows L2 Ab Bk
section
variable {h c : Nat} {L : List (Nat × Cell)} {m m' : Mem} {e e1 e2 : Env'} {a b : AE} {aa : AA} {x y z : D} {P Q R' : D → Prop} {Ps : List D → Prop} {E1 E2 : Env' → Prop} {s s' : AS} {t : AT} {k : Bool} {i : Nat}
def stQ (C R dp : Nat) (d : D) : Prop := ∃ s, d = stD s ∧ okS C R s ∧ dpS s ≤ dp ∧ szS s ≤ 80
def bdQ (C R dp : Nat) (d : D) : Prop := ∃ b, d = .tup (bdD b) ∧ okB C R b ∧ dpB b ≤ dp ∧ szB b ≤ 36
theorem dn_two {j : Nat} (h1 : Dr h c L e a P) (h2 : Dr h c L e b Q) : DN h c L e (sPar2 i j (aCons a (aCons b aNil))) (fun e' => ∃ x y, P x ∧ Q y ∧ e' = (e.set i (some x)).set j (some y)) := fun m H => by
  obtain ⟨x, m1, v1, q1, f1, g1⟩ := h1 m H
  obtain ⟨y, m2, v2, q2, f2, g2⟩ := h2 m1 (H.fr f1 g1)
  exact ⟨_, m2, s_par2 (a_c v1 (a_c v2 rfl)), ⟨x, y, q1, q2, rfl⟩, f1.trans f2, g2⟩
theorem dn_three {j l : Nat} {b2 : AE} {P2 : D → Prop} (h1 : Dr h c L e a P) (h2 : Dr h c L e b Q) (h3 : Dr h c L e b2 P2) : DN h c L e (sPar3 i j l (aCons a (aCons b (aCons b2 aNil)))) (fun e' => ∃ x y z, P x ∧ Q y ∧ P2 z ∧ e' = ((e.set i (some x)).set j (some y)).set l (some z)) := fun m H => by
  obtain ⟨x, m1, v1, q1, f1, g1⟩ := h1 m H
  have H1 := H.fr f1 g1
  obtain ⟨y, m2, v2, q2, f2, g2⟩ := h2 m1 H1
  obtain ⟨z, m3, v3, q3, f3, g3⟩ := h3 m2 (H1.fr f2 g2)
  exact ⟨_, m3, s_par3 (a_c v1 (a_c v2 (a_c v3 rfl))), ⟨x, y, z, q1, q2, q3, rfl⟩, f1.trans (f2.trans f3), g3⟩
/-- for .. in range(a number, drawn) -/
theorem dn_rng {N : Nat} {Pv : Nat → Prop} (E : Nat → Env' → Prop) (h1 : Dr h c L e a (fun d => ∃ v : Nat, d = I v ∧ Pv v)) (hv : ∀ v, Pv v → v ≤ N) (hN : N < 6000) (h0 : E 0 e) (hs : ∀ j e, j < N → E j e → ∀ x, DN h c L (e.set i (some x)) s (E (j + 1))) : DN h c L e (sFor (iA rng1 (aCons a aNil)) (gN i) s) (fun e' => ∃ v, Pv v ∧ E v e') := fun m H => by
  obtain ⟨_, m1, v1, ⟨v, rfl, hv1⟩, f1, g1⟩ := h1 m H
  have hvN := hv v hv1
  have key : ∀ (n j : Nat) (f : Nat → D) (e : Env') (m : Mem), j + n ≤ N → E j e → Hc h c L m → ∃ e' m', forL (gN i) s [] ((List.range n).map f) e m = .nx e' m' ∧ E (j + n) e' ∧ Fr h m m' ∧ HandC h c m' := by
    intro n
    induction n with
    | zero => exact fun j f e m _ hE H => ⟨e, m, forL_nil gd_nil, hE, .refl, H.1⟩
    | succ n ih =>
      intro j f e m hj hE H
      obtain ⟨e2, m2, v2, q2, f2, g2⟩ := hs j e (by omega) hE (f 0) m H
      obtain ⟨e3, m3, v3, q3, f3, g3⟩ := ih (j + 1) (f ∘ Nat.succ) e2 m2 (by omega) q2 (H.fr f2 g2)
      refine ⟨e3, m3, ?_, by rw [show j + (n + 1) = j + 1 + n from by omega]; exact q3, f2.trans f3, g3⟩
      rw [List.range_succ_eq_map, List.map_cons, List.map_map, forL_nx gd_nil rfl v2, v3]
  obtain ⟨e', m2, v2, q2, f2, g2⟩ := key v 0 I e m1 (by omega) h0 (H.fr f1 g1)
  rw [Nat.zero_add] at q2
  refine ⟨e', m2, ?_, ⟨v, hv1, q2⟩, f1.trans f2, g2⟩
  rw [w_for, w_iA, a_c v1 rfl, v_bind, show rng1 [I v] m1 = _ from v_rng (by omega), v_o]
  exact v2
theorem et_lt {i : Int} {j : Int} {a b : AE} (ha : Ev e a (.int i)) (hb : Ev e b (.int j)) : Et e (tVal (eOp dLt a b)) (decide (i < j)) := et_v (ev_op0 ha hb fun m => rfl)
theorem et_gt {i : Int} {j : Int} {a b : AE} (ha : Ev e a (.int i)) (hb : Ev e b (.int j)) : Et e (tVal (eOp dGt a b)) (decide (i > j)) := et_v (ev_op0 ha hb fun m => rfl)
theorem et_eqI {i : Int} {j : Int} {a b : AE} (ha : Ev e a (.int i)) (hb : Ev e b (.int j)) : Et e (tVal (eOp dEq a b)) (decide (i = j)) := et_v (ev_eqI ha hb rfl)
theorem len_le {n : Nat} (h : n ≤ 1000) : n ≤ sizeLine := Nat.le_trans h (by exact Nat.le_of_ble_eq_true rfl)
theorem df_stm_of {C R deep k : Nat} (hC : 1 ≤ C ∧ C ≤ 4) (hR : 1 ≤ R ∧ R ≤ 5) (hd : deep ≤ 8) (hb : deep ≤ 7 → DF h c L (f_law_body k) [.ref h, I C, I R, I (deep + 1)] (bdQ C R (8 - deep))) : DF h c L (f_law_statement (k + 1)) [.ref h, I C, I R, I deep] (stQ C R (8 - deep)) := by
  rw [show f_law_statement (k + 1) = afOf 8 (a_law_statement (f_law_body k)) from rfl]
  have hC9 : C < 900 := by omega
  refine df_of (dr_seq (dn_two (dr_fn (ea_c (ev_v 0) (ea_c (x := I 10) ev_cint ea_nil)) (df_draw (by omega) (by omega))) (dr_fn (ea_c (ev_v 0) (ea_c (ev_v 1) ea_nil)) (df_draw (by omega) (by omega)))) fun e' he => ?_)
  obtain ⟨_, _, ⟨kind, rfl, hk⟩, ⟨cell, rfl, hc⟩, rfl⟩ := he
  let E (x6 x7 : Option D) : Env' := [some (.ref h), some (I C), some (I R), some (I deep), some (I kind), some (I cell), x6, x7]
  show DR h c L (E none none) _ _
  have hsum : ∀ x6 x7, Dr h c L (E x6 x7) (eCall f_law_sum (aCons (eVar 0) (aCons (eVar 1) (aNil)))) (sumQ C) := fun x6 x7 => dr_fn (ea_c (ev_v 0) (ea_c (ev_v 1) ea_nil)) (df_sum hC9)
  have htest : ∀ x6 x7, Dr h c L (E x6 x7) (eCall f_law_test (aCons (eVar 0) (aCons (eVar 1) (aNil)))) (testQ C) := fun x6 x7 => dr_fn (ea_c (ev_v 0) (ea_c (ev_v 1) ea_nil)) (df_test hC9)
  have dl {s : Stm} (h1 : okS C R s) (h2 : dpS s = 0) (h3 : szS s = 1) : stQ C R (8 - deep) (stD s) := ⟨s, rfl, h1, by omega, by omega⟩
  refine dr_ret_or (et_lt (ev_v 4) ev_cint) (fun _ => dr_ret (dr_mono (dr_tup (dra_c (dr_is ev_c) (dra_c (dr_is (ev_v 5)) (dra_c (hsum _ _) dra_nil))) fun ds hds => ?_) fun d hd => ?_)) fun _ => ?_
  · obtain ⟨_, _, rfl, _, _, _, rfl, _, _, _, rfl, _, rfl⟩ := hds
    exact Nat.le_of_ble_eq_true rfl
  · obtain ⟨_, rfl, _, _, rfl, rfl, _, _, rfl, rfl, _, _, rfl, ⟨s, rfl, hs⟩, rfl⟩ := hd
    exact dl (s := .set cell s) ⟨hc, hs⟩ rfl rfl
  refine dr_ret_or (et_lt (ev_v 4) ev_cint) (fun _ => dr_ret (dr_mono (dr_tup (dra_c (dr_is ev_c) (dra_c (hsum _ _) dra_nil)) fun ds hds => ?_) fun d hd => ?_)) fun _ => ?_
  · obtain ⟨_, _, rfl, _, _, _, rfl, _, rfl⟩ := hds
    exact Nat.le_of_ble_eq_true rfl
  · obtain ⟨_, rfl, _, _, rfl, rfl, _, _, rfl, ⟨s, rfl, hs⟩, rfl⟩ := hd
    exact dl (s := .say s) hs rfl rfl
  refine dr_ret_or (et_eqI (ev_v 4) ev_cint) (fun _ => dr_ret (dr_mono (dr_tup (dra_c (dr_is ev_c) (dra_c (dr_fn (ea_c (ev_v 0) (ea_c (ev_v 2) ea_nil)) (df_draw (by omega) (by omega))) dra_nil)) fun ds hds => ?_) fun d hd => ?_)) fun _ => ?_
  · obtain ⟨_, _, rfl, _, _, _, rfl, _, rfl⟩ := hds
    exact Nat.le_of_ble_eq_true rfl
  · obtain ⟨_, rfl, _, _, rfl, rfl, _, _, rfl, ⟨r, rfl, hr⟩, rfl⟩ := hd
    exact dl (s := .call r) hr rfl rfl
  refine dr_ret_or (et_or (k := decide ((deep : Int) > 7)) (l := decide ((kind : Int) = 5)) (et_gt (ev_v 3) ev_cint) fun _ => et_eqI (ev_v 4) ev_cint) (fun _ => dr_ret (dr_mono (dr_tup (dra_c (dr_is ev_c) (dra_c (dr_is (ev_v 5)) (dra_c (P := sumQ C) ?_ dra_nil))) fun ds hds => ?_) fun d hd => ?_)) fun hn => ?_
  · refine dr_call (dra_c (dr_is (ev_v 1)) (dra_c (dr_is (ev_v 5)) (dra_c (dr_any (ds := [.int (-1), .int 1, .int 2, .int (-3)]) rfl (ev_lst (ea_c ev_neg (ea_c ev_cint (ea_c ev_cint (ea_c ev_neg ea_nil)))) (by exact Nat.le_of_ble_eq_true rfl)) (by simp) (by simp)) dra_nil))) fun ds hds => ?_
    obtain ⟨_, _, rfl, rfl, _, _, rfl, rfl, z, _, rfl, hz, rfl⟩ := hds
    obtain ⟨n, rfl, hn⟩ : ∃ n, z = .int n ∧ -1000 ≤ n ∧ n ≤ 1000 := by
      simp only [List.mem_cons, List.not_mem_nil, or_false] at hz
      rcases hz with rfl | rfl | rfl | rfl <;> exact ⟨_, rfl, by omega⟩
    intro m H
    obtain ⟨m1, v1, p1⟩ := fn_alone (C := C) (cell := cell) (n := n) hC9 m
    exact ⟨_, m1, v1, ⟨_, rfl, ok_alone hn⟩, p1.fr, H.1.pre p1⟩
  · obtain ⟨_, _, rfl, _, _, _, rfl, _, _, _, rfl, _, rfl⟩ := hds
    exact Nat.le_of_ble_eq_true rfl
  · obtain ⟨_, rfl, _, _, rfl, rfl, _, _, rfl, rfl, _, _, rfl, ⟨s, rfl, hs⟩, rfl⟩ := hd
    exact dl (s := .set cell s) ⟨hc, hs⟩ rfl rfl
  have hd7 : deep ≤ 7 := by
    cases hz : decide ((deep : Int) > 7) with
    | true => rw [hz] at hn; cases hn
    | false => have := of_decide_eq_false hz; omega
  have hb := hb hd7
  have hbody : ∀ x6 x7, Dr h c L (E x6 x7) (eCall (f_law_body k) (aCons (eVar 0) (aCons (eVar 1) (aCons (eVar 2) (aCons (eOp dAdd (eVar 3) (eC (.int 1))) (aNil)))))) (bdQ C R (8 - deep)) := fun x6 x7 => dr_fn (ea_c (ev_v 0) (ea_c (ev_v 1) (ea_c (ev_v 2) (ea_c (ev_inc (ev_v 3)) ea_nil)))) hb
  refine dr_ret_or (et_lt (ev_v 4) ev_cint) (fun _ => dr_seq (dn_asg (hbody _ _)) fun e' he => ?_) fun _ => ?_
  · obtain ⟨_, ⟨b1, rfl, o1, d1, z1⟩, rfl⟩ := he
    show DR h c L (E (some (.tup (bdD b1))) none) _ _
    refine dr_ret (dr_mono (dr_tup (dra_c (dr_is ev_c) (dra_c (htest _ _) (dra_c (dr_is (ev_v 6)) (dra_c (hbody _ _) dra_nil)))) fun ds hds => ?_) fun d hd => ?_)
    · obtain ⟨_, _, rfl, _, _, _, rfl, _, _, _, rfl, _, _, _, rfl, _, rfl⟩ := hds
      exact Nat.le_of_ble_eq_true rfl
    · obtain ⟨_, rfl, _, _, rfl, rfl, _, _, rfl, ⟨w, ta, tb, rfl, ha, hb'⟩, _, _, rfl, rfl, _, _, rfl, ⟨b2, rfl, o2, d2, z2⟩, rfl⟩ := hd
      exact ⟨.ifs w ta tb b1 b2, by simp only [stD], ⟨ha, hb', o1, o2⟩, by simp only [dpS]; omega, by simp only [szS]; omega⟩
  refine dr_seq (dn_asg (hbody _ _)) fun e' he => ?_
  obtain ⟨_, ⟨b1, rfl, o1, d1, z1⟩, rfl⟩ := he
  show DR h c L (E (some (.tup (bdD b1))) none) _ _
  refine dr_ret_or (et_eqI (ev_v 4) ev_cint) (fun _ => dr_ret (dr_mono (dr_tup (dra_c (dr_is ev_c) (dra_c (htest _ _) (dra_c (dr_is (ev_v 6)) dra_nil))) fun ds hds => ?_) fun d hd => ?_)) fun _ => ?_
  · obtain ⟨_, _, rfl, _, _, _, rfl, _, _, _, rfl, _, rfl⟩ := hds
    exact Nat.le_of_ble_eq_true rfl
  · obtain ⟨_, rfl, _, _, rfl, rfl, _, _, rfl, ⟨w, ta, tb, rfl, ha, hb'⟩, _, _, rfl, rfl, rfl⟩ := hd
    exact ⟨.whl w ta tb b1, by simp only [stD], ⟨ha, hb', o1⟩, by simp only [dpS]; omega, by simp only [szS]; omega⟩
  have hzero : Ev (E (some (.tup (bdD b1))) none) (eOp dMulT (eCall mkTup (aCons (eC (.int 0)) (aNil))) (eOp dAdd (eVar 1) (eC (.int 1)))) (smD (List.replicate (C + 1) 0)) := by
    refine ev_op0 (ev_tup (ea_c ev_cint ea_nil) (by exact Nat.le_of_ble_eq_true rfl)) (ev_inc (ev_v 1)) fun m => ?_
    show dMulT (.tup [.int 0]) (.int ((C + 1 : Nat) : Int)) m = _
    unfold dMulT
    dsimp only
    rw [if_pos ⟨by simp, by omega, by omega, by simp⟩]
    have : ∀ n : Nat, (List.replicate n [D.int 0]).flatten = (List.replicate n (0 : Int)).map D.int := by
      intro n
      induction n with
      | zero => rfl
      | succ n ih => rw [List.replicate_succ, List.replicate_succ, List.flatten_cons, ih]; rfl
    rw [Int.toNat_natCast, this]; rfl
  refine dr_seq (dn_asg (dr_is hzero)) fun e' he => ?_
  obtain ⟨_, rfl, rfl⟩ := he
  show DR h c L (E (some (.tup (bdD b1))) (some (smD (List.replicate (C + 1) 0)))) _ _
  have o9 : okB C R (b1 ++ [.set cell (alone C cell (-1))]) := (okB_app _ _).mpr ⟨o1, ⟨⟨hc, ok_alone (by omega)⟩, trivial⟩⟩
  have l9 := szB_len b1
  refine dr_ret (dr_ev (ev_tup (ea_c ev_c (ea_c (ev_tup (ea_c ev_c (ea_c (ev_v 7) (ea_c (ev_fn (ea_c (ev_v 1) (ea_c (ev_v 5) (ea_c ev_cint ea_nil))) (fn_alone hC9)) ea_nil))) (by exact Nat.le_of_ble_eq_true rfl)) (ea_c (ev_op0 (z := .tup (bdD (b1 ++ [.set cell (alone C cell (-1))]))) (ev_v 6) (ev_tup (ea_c (ev_tup (ea_c ev_c (ea_c (ev_v 5) (ea_c (ev_fn (ea_c (ev_v 1) (ea_c (ev_v 5) (ea_c ev_neg ea_nil))) (fn_alone hC9)) ea_nil))) (by exact Nat.le_of_ble_eq_true rfl)) ea_nil) (by exact Nat.le_of_ble_eq_true rfl)) fun m => ?_) ea_nil))) (by exact Nat.le_of_ble_eq_true rfl)) ?_)
  · rw [v_catT (by rw [bdD_len]; exact len_le (by simp; omega)), bdD_map, bdD_map, List.map_append]
    simp [stD]
  · refine ⟨.whl true (List.replicate (C + 1) 0) (alone C cell 0) (b1 ++ [.set cell (alone C cell (-1))]), ?_, ⟨⟨by simp, fun i hi => ?_⟩, ok_alone (by omega), o9⟩, ?_, ?_⟩
    · simp only [stD]; rfl
    · rw [List.mem_replicate] at hi; omega
    · simp only [dpS, dpB_app, dpB, dpS]; omega
    · simp only [szS, szB_app, szB, szS]; omega
end
end Cl
set_option Elab.async false
set_option linter.all false
set_option maxRecDepth 100000
/-! # drawing: bodies, parts, what they begin with, the hand -/
namespace Cl
open PySem PySem.Spec PyProof.Rows L2 Ab Bk
section
variable {h c : Nat} {L : List (Nat × Cell)} {m m' : Mem} {e e1 e2 : Env'} {a b : AE} {aa : AA} {x y z : D} {P Q R' : D → Prop} {Ps : List D → Prop} {E1 E2 : Env' → Prop} {s s' : AS} {t : AT} {k : Bool} {i : Nat}
theorem bdD_app (a b : List Stm) : bdD (a ++ b) = bdD a ++ bdD b := by rw [bdD_map, bdD_map, bdD_map, List.map_append]
theorem bdD_take (a : List Stm) (n : Nat) : bdD (a.take n) = (bdD a).take n := by rw [bdD_map, bdD_map, List.map_take]
theorem dp_take {a : List Stm} {n d : Nat} (h : dpB a ≤ d) : dpB (a.take n) ≤ d := by
  have := dpB_app (a.take n) (a.drop n)
  rw [List.take_append_drop] at this
  omega
theorem ok_take {C R : Nat} {a : List Stm} {n : Nat} (h : okB C R a) : okB C R (a.take n) := by
  have := okB_app (C := C) (R := R) (a.take n) (a.drop n)
  rw [List.take_append_drop] at this
  exact (this.mp h).1
theorem df_body_of {C R deep k : Nat} (hd : 1 ≤ deep ∧ deep ≤ 8) (hs : DF h c L (f_law_statement (k + 1)) [.ref h, I C, I R, I deep] (stQ C R (8 - deep))) : DF h c L (f_law_body (k + 2)) [.ref h, I C, I R, I deep] (bdQ C R (9 - deep)) := by
  rw [show f_law_body (k + 2) = afOf 6 (a_law_body (f_law_statement (k + 1))) from rfl]
  let E (x4 x5 : Option D) : Env' := [some (.ref h), some (I C), some (I R), some (I deep), x4, x5]
  refine df_of (dr_seq (E1 := fun e' => e' = E (some (.tup [])) none) (dn_sn (sn_asg (ev_tup ea_nil (by exact Nat.le_of_ble_eq_true rfl))) rfl) fun e' he => ?_)
  subst he
  have hmin : Ev (E (some (.tup [])) none) (eOp dSub (eC (.int 5)) (eCall bMin (aCons (eC (.int 3)) (aCons (eOp dFdiv (eVar 3) (eC (.int 2))) (aNil))))) (I (5 - min 3 (deep / 2))) := by
    refine ev_op0 (y := .int (min 3 ((deep / 2 : Nat) : Int))) ev_c (ev_call0 (ea_c ev_cint (ea_c (ev_op0 (z := .int ((deep / 2 : Nat) : Int)) (ev_v 3) ev_cint fun m => ?_) ea_nil)) fun m => rfl) fun m => ?_
    · show dFdiv (.int (deep : Int)) (.int 2) m = _
      rw [v_fdiv ⟨by decide, by decide⟩, Int.fdiv_eq_ediv_of_nonneg _ (by decide)]; rfl
    · show Ab.R.ok (D.int (5 - min 3 ((deep / 2 : Nat) : Int))) m = _
      have : (5 : Int) - min 3 ((deep / 2 : Nat) : Int) = ((5 - min 3 (deep / 2) : Nat) : Int) := by omega
      rw [this]; rfl
  refine dr_seq (dn_rng (N := 5) (Pv := fun v => v < 5) (fun j e' => ∃ (b : List Stm) (x5 : Option D), e' = E (some (.tup (bdD b))) x5 ∧ okB C R b ∧ dpB b ≤ 9 - deep ∧ b.length = j ∧ szB b ≤ 80 * j) (dr_mono (dr_fn (ea_c (ev_v 0) (ea_c hmin ea_nil)) (df_draw (by omega) (by omega))) fun d ⟨n, e, hn⟩ => ⟨n, e, by omega⟩) (fun v hv => by omega) (by omega) ⟨[], none, rfl, trivial, by simp [dpB]; omega, rfl, by simp [szB]⟩ fun j e' hj he x => ?_) fun e' he => ?_
  · obtain ⟨b, x5, rfl, o1, d1, l1, z1⟩ := he
    have hst : Dr h c L (E (some (.tup (bdD b))) (some x)) (eCall (f_law_statement (k + 1)) (aCons (eVar 0) (aCons (eVar 1) (aCons (eVar 2) (aCons (eVar 3) (aNil)))))) (stQ C R (8 - deep)) := dr_fn (ea_c (ev_v 0) (ea_c (ev_v 1) (ea_c (ev_v 2) (ea_c (ev_v 3) ea_nil)))) hs
    show DN h c L (E (some (.tup (bdD b))) (some x)) _ _
    intro m H
    have hadd : Dr h c L (E (some (.tup (bdD b))) (some x)) (eOp dAdd (eVar 4) (eCall mkTup (aCons (eCall (f_law_statement (k + 1)) (aCons (eVar 0) (aCons (eVar 1) (aCons (eVar 2) (aCons (eVar 3) (aNil)))))) (aNil)))) (fun d => ∃ b2, d = .tup (bdD b2) ∧ okB C R b2 ∧ dpB b2 ≤ 9 - deep ∧ b2.length = j + 1 ∧ szB b2 ≤ 80 * (j + 1)) := by
      refine dr_opM (dr_is (ev_v 4)) (dr_tup (dra_c hst dra_nil) fun ds hds => ?_) fun x y m H hx hy => ?_
      · obtain ⟨_, _, rfl, _, rfl⟩ := hds
        exact Nat.le_of_ble_eq_true rfl
      · subst hx
        obtain ⟨_, rfl, _, _, rfl, ⟨s, rfl, os, dps, szs⟩, rfl⟩ := hy
        refine ⟨_, v_catT (by rw [bdD_len]; exact len_le (by simp; omega)), b ++ [s], by rw [bdD_app]; simp [bdD], (okB_app _ _).mpr ⟨o1, os, trivial⟩, ?_, by simp [l1], ?_⟩
        · simp only [dpB_app, dpB]; omega
        · simp only [szB_app, szB]; omega
    obtain ⟨e2, m2, v2, ⟨_, ⟨b2, rfl, q1, q2, q3, q4⟩, rfl⟩, f2, g2⟩ := dn_asg (i := 4) hadd m H
    exact ⟨_, m2, v2, ⟨b2, some x, rfl, q1, q2, q3, q4⟩, f2, g2⟩
  · obtain ⟨v, hv, b, x5, rfl, o1, d1, l1, z1⟩ := he
    have e1 : Ev (E (some (.tup (bdD b))) x5) (eVar 4) (.tup (bdD b)) := ev_v 4
    have e2 : Ev (E (some (.tup (bdD b))) x5) (eSl (eVar 4) (oNone) (oSome (eC (.int 1)))) (.tup (bdD (b.take 1))) := by
      rw [bdD_take, ← cut_lo]
      exact ev_sl e1 eo_n (eo_s ev_cint)
    refine dr_ret ?_
    by_cases h1 : szB b < 37
    · exact dr_ifT (et_nop (et_lt (ev_fn (ea_c e1 ea_nil) (fn_size 20 b (by omega))) ev_cint) (decide_eq_true (by omega))) (dr_ev e1 ⟨b, rfl, o1, d1, by omega⟩)
    · refine dr_ifF (et_nop (et_lt (ev_fn (ea_c e1 ea_nil) (fn_size 20 b (by omega))) ev_cint) (decide_eq_false (by omega))) ?_
      by_cases h2 : szB (b.take 1) < 37
      · exact dr_ifT (et_nop (et_lt (ev_fn (ea_c e2 ea_nil) (fn_size 20 (b.take 1) (dp_take (by omega)))) ev_cint) (decide_eq_true (by omega))) (dr_ev e2 ⟨b.take 1, rfl, ok_take o1, dp_take d1, by omega⟩)
      · exact dr_ifF (et_nop (et_lt (ev_fn (ea_c e2 ea_nil) (fn_size 20 (b.take 1) (dp_take (by omega)))) ev_cint) (decide_eq_false (by omega))) (dr_ev (ev_tup ea_nil (by exact Nat.le_of_ble_eq_true rfl)) ⟨[], by simp [bdD], trivial, by simp [dpB]; omega, by simp [szB]⟩)
theorem df_stm {C R : Nat} (hC : 1 ≤ C ∧ C ≤ 4) (hR : 1 ≤ R ∧ R ≤ 5) : ∀ (j deep k : Nat), 1 ≤ deep → deep + j = 8 → 2 * j ≤ k → DF h c L (f_law_statement (k + 1)) [.ref h, I C, I R, I deep] (stQ C R (8 - deep))
  | 0, deep, k, h1, h2, h3 => df_stm_of hC hR (by omega) fun z => by omega
  | j + 1, deep, k, h1, h2, h3 => df_stm_of hC hR (by omega) fun z => by
      obtain ⟨k1, rfl⟩ : ∃ k1, k = k1 + 2 := ⟨k - 2, by omega⟩
      have := df_body_of (L := L) (by omega) (df_stm hC hR j (deep + 1) k1 (by omega) (by omega) (by omega))
      rwa [show 9 - (deep + 1) = 8 - deep from by omega] at this
theorem df_body {C R : Nat} (hC : 1 ≤ C ∧ C ≤ 4) (hR : 1 ≤ R ∧ R ≤ 5) : DF h c L (f_law_body 20) [.ref h, I C, I R, .int 1] (bdQ C R 8) :=
  df_body_of (k := 18) (deep := 1) (by omega) (df_stm hC hR 7 1 18 (by omega) (by omega) (by omega))
def partsQ (d : D) : Prop := ∃ (C : Nat) (bs : List (List Stm)), d = .tup [I C, rtD bs] ∧ (1 ≤ C ∧ C ≤ 4) ∧ (1 ≤ bs.length ∧ bs.length ≤ 5) ∧ ∀ b ∈ bs, dpB b ≤ 8 ∧ szB b ≤ 38 ∧ okB C bs.length b
theorem df_parts : DF h c L f_law_parts [.ref h] partsQ := by
  have hdr : ∀ (v : Nat) (E : Env'), 0 < v → v < 100 → E[0]? = some (some (.ref h)) → Dr h c L E (eOp dAdd (eC (.int 1)) (eCall f_law_draw (aCons (eVar 0) (aCons (eC (.int (v : Int))) (aNil))))) (fun d => ∃ n : Nat, d = I n ∧ 1 ≤ n ∧ n ≤ v) := fun v E h0 h1 hE => by
    refine dr_opM (dr_is ev_cint) (dr_fn (ea_c (ev_v 0 hE) (ea_c (x := I v) ev_cint ea_nil)) (df_draw h0 (by omega))) fun x y m H hx hy => ?_
    subst hx
    obtain ⟨n, rfl, hn⟩ := hy
    refine ⟨I (n + 1), ?_, n + 1, rfl, by omega, by omega⟩
    show Ab.R.ok (D.int (1 + (n : Int))) m = _
    rw [show (1 : Int) + n = ((n + 1 : Nat) : Int) from by omega]; rfl
  refine df_of (dr_seq (dn_three (hdr 4 _ (by omega) (by omega) rfl) (hdr 5 _ (by omega) (by omega) rfl) (dr_is (ev_tup ea_nil (by exact Nat.le_of_ble_eq_true rfl)))) fun e' he => ?_)
  obtain ⟨_, _, _, ⟨C, rfl, hC⟩, ⟨R, rfl, hR⟩, rfl, rfl⟩ := he
  let E (x3 x4 x5 : Option D) : Env' := [some (.ref h), some (I C), some (I R), x3, x4, x5]
  show DR h c L (E (some (.tup [])) none none) _ _
  refine dr_seq (dn_rng (N := 5) (Pv := fun v => v = R) (fun j e' => ∃ (bs : List (List Stm)) (x4 x5 : Option D), e' = E (some (rtD bs)) x4 x5 ∧ bs.length = j ∧ ∀ b ∈ bs, dpB b ≤ 8 ∧ szB b ≤ 38 ∧ okB C R b) (dr_ev (ev_v 2) ⟨R, rfl, rfl⟩) (fun v hv => by omega) (by omega) ⟨[], none, none, rfl, rfl, fun b hb => by cases hb⟩ fun j e' hj he x => ?_) fun e' he => ?_
  · obtain ⟨bs, x4, x5, rfl, l1, o1⟩ := he
    show DN h c L (E (some (rtD bs)) (some x) x5) _ _
    refine dn_seq (dn_asg (dr_fn (ea_c (ev_v 0) (ea_c (ev_v 1) (ea_c (ev_v 2) (ea_c ev_cint ea_nil)))) (df_body hC hR))) fun e' he => ?_
    obtain ⟨_, ⟨b, rfl, q1, q2, q3⟩, rfl⟩ := he
    refine dn_sn (e1 := E (some (rtD (bs ++ [b]))) (some x) (some (.tup (bdD b)))) (sn_asg (i := 3) (e := E (some (rtD bs)) (some x) (some (.tup (bdD b)))) (ev_op0 (ev_v 3) (ev_tup (ea_c (ev_v 5) ea_nil) (by exact Nat.le_of_ble_eq_true rfl)) fun m => ?_)) ⟨bs ++ [b], _, _, rfl, by simp [l1], fun u hu => ?_⟩
    · unfold rtD
      rw [v_catT (by rw [List.length_map]; exact len_le (by simp; omega)), List.map_append]; rfl
    · rcases List.mem_append.mp hu with hu | hu
      · exact o1 u hu
      · rw [List.mem_singleton] at hu; subst hu; exact ⟨q2, by omega, q1⟩
  · obtain ⟨v, rfl, bs, x4, x5, rfl, l1, o1⟩ := he
    exact dr_ret (dr_ev (ev_tup (ea_c (ev_v 1) (ea_c (ev_v 3) ea_nil)) (by exact Nat.le_of_ble_eq_true rfl)) ⟨C, bs, rfl, hC, by rw [l1]; exact hR, by rw [l1]; exact o1⟩)
theorem df_begins {C : Nat} (hC : C < 900) : DF h c L f_law_begins [.ref h, I C] (fun d => ∃ s : List Int, d = smD s ∧ s.length = C) := by
  refine df_of (dr_ret (dr_mono (dr_tupL (drl_lc (Q := fun d => ∃ i, d = .int i ∧ True) (ei_rng (ev_v 1) (by omega)) (by simp; omega) fun d hd => ⟨[some (.ref h), some (I C), some d], fun m => rfl, ?_⟩)) fun d hd => ?_))
  · refine dr_mono (dr_any (ds := [0, 1, 2, 3, 5, -1, -4, 12, 10 ^ 19].map D.int) rfl (ev_lst (ea_c ev_cint (ea_c ev_cint (ea_c ev_cint (ea_c ev_cint (ea_c ev_cint (ea_c ev_neg (ea_c ev_neg (ea_c ev_cint (ea_c (ev_op0 ev_cint ev_cint fun m => ?_) ea_nil))))))))) (by exact Nat.le_of_ble_eq_true rfl)) (by simp) (by simp)) fun d hd => ?_
    · show dPow (.int 10) (.int 19) m = _
      unfold dPow
      dsimp only
      rw [if_pos (by decide)]; rfl
    · obtain ⟨i, _, rfl⟩ := List.mem_map.mp hd
      exact ⟨i, rfl, trivial⟩
  · obtain ⟨ds, rfl, l1, q1⟩ := hd
    obtain ⟨s, rfl, _⟩ := ints_of q1
    exact ⟨s, rfl, by simpa using l1⟩
end
end Cl
set_option Elab.async false
set_option linter.all false
set_option maxRecDepth 100000
/-! # the law's own telling: sums, tests, lists put together -/
namespace Cl
open PySem PySem.Spec PyProof.Rows L2 Ab Bk
theorem whileR {c : AT} {b : AS} {n : Nat} {e : Env'} {m m1 m2 : Mem} {d : D} (h1 : c e m = .ok true m1) (h2 : b e m1 = .rt d m2) : whileN c b (n + 1) e m = .rt d m2 := by
  show (c e m).o e _ = _
  rw [h1, v_o, if_pos rfl, h2]
theorem w_value {s vs : List Int} {n : Nat} {m : Mem} (hn : m[n]? = some (.lst (vs.map D.int))) (hs : s ≠ []) (hb : ∀ i ∈ s, -1000 ≤ i ∧ i ≤ 1000) : f_law_value [smD s, .ref n] m = .ok (.int (val s vs)) m := by
  let E (a : Int) (x3 x4 : Option D) : Env' := [some (smD s), some (.ref n), some (.int a), x3, x4]
  have hg : Gd.Ok [(n, .lst (vs.map D.int))] m := fun p hp => by rw [List.mem_singleton] at hp; subst hp; exact hn
  have key : ∀ (ps : List (Int × Int)) (a : Int) (x3 x4 : Option D), (∀ p ∈ ps, -1000 ≤ p.1 ∧ p.1 ≤ 1000) → ∃ y3 y4, forL (gT 2 (gsCons (gN 3) (gsCons (gN 4) (gsNil)))) (sAsg (eOp dAdd (eVar 2) (eOp dMul (eVar 3) (eVar 4))) (gN 2)) [(n, .lst (vs.map D.int))] (ps.map fun p => D.tup [.int p.1, .int p.2]) (E a x3 x4) m = .nx (E (a + (ps.map fun p => p.1 * p.2).sum) y3 y4) m := by
    intro ps
    induction ps with
    | nil => exact fun a x3 x4 _ => ⟨x3, x4, by rw [List.map_nil, forL_nil hg]; simp [E]⟩
    | cons p ps ih =>
      intro a x3 x4 hp
      have h1 := hp p List.mem_cons_self
      obtain ⟨y3, y4, v1⟩ := ih (a + p.1 * p.2) (some (.int p.1)) (some (.int p.2)) fun q hq => hp q (List.mem_cons_of_mem _ hq)
      refine ⟨y3, y4, ?_⟩
      rw [List.map_cons, forL_nx hg (e2 := E a (some (.int p.1)) (some (.int p.2))) rfl (s_asg (e_op rfl (e_op rfl rfl (v_mul (.inl (by omega)))) rfl))]
      rw [List.map_cons, List.sum_cons, ← Int.add_assoc]
      exact v1
  obtain ⟨y3, y4, v1⟩ := key (s.zip vs) (s.getLastD 0) none none fun p hp => hb p.1 (List.of_mem_zip hp).1
  rw [Int.add_comm] at v1
  refine af_rt (E := [some (smD s), some (.ref n), none, none, none]) rfl (s_seq (s_asg (e_op rfl (e_un rfl rfl) (v_ixT (last_smD hs)))) (s_seq (e1 := E (val s vs) y3 y4) ?_ (s_ret rfl)))
  have hz : zpp [smD s, .ref n] m = .ok (zipD (s.map D.int) (vs.map D.int), [(n, .lst (vs.map D.int))]) m := by
    unfold zpp
    unfold smD
    dsimp only
    show (Ab.R.ok (s.map D.int, ([] : Gd)) m).bind _ = _
    rw [v_bind]
    have : itD (.ref n) m = .ok (vs.map D.int, [(n, .lst (vs.map D.int))]) m := by unfold itD; simp only [hn]
    rw [this, v_bind]; rfl
  rw [w_for, w_iA, a_c rfl (a_c rfl rfl), v_bind, hz, v_o, zipD_ints]
  exact v1
theorem ok_ne {C : Nat} {s : List Int} (h : okSum C s) : s ≠ [] := fun z => by have := h.1; rw [z] at this; simp at this
theorem w_tholds {w : Bool} {a b vs : List Int} {n C : Nat} {m : Mem} (hn : m[n]? = some (.lst (vs.map D.int))) (ha : okSum C a) (hb : okSum C b) : f_law_test_holds [tsD w a b, .ref n] m = .ok (.bl (tst w a b vs)) m := by
  let E : Env' := [some (tsD w a b), some (.ref n), none, none]
  let E2 : Env' := [some (tsD w a b), some (.ref n), some (.int (val a vs)), some (.int (val b vs))]
  have s1 : sPar2 2 3 (aCons (eCall f_law_value (aCons (eOp dIx (eVar 0) (eC (.int 1))) (aCons (eVar 1) (aNil)))) (aCons (eCall f_law_value (aCons (eOp dIx (eVar 0) (eC (.int 2))) (aCons (eVar 1) (aNil)))) (aNil))) E m = .nx E2 m :=
    s_par2 (a_c (e_call (a_c (e_op rfl rfl (v_ixT (d := smD a) rfl)) (a_c rfl rfl)) (w_value hn (ok_ne ha) ha.2)) (a_c (e_call (a_c (e_op rfl rfl (v_ixT (d := smD b) rfl)) (a_c rfl rfl)) (w_value hn (ok_ne hb) hb.2)) rfl))
  refine af_rt (E := E) rfl (s_seq s1 (s_ret ?_))
  have e1 : tVal (eOp dEq (eOp dIx (eVar 0) (eC (.int 0))) (eC (.str "less"))) E2 m = .ok w m := by
    refine t_v (e_op (e_op rfl rfl (v_ixT (d := wdD w) rfl)) rfl ?_)
    cases w
    · exact v_eqS ok_same ok_less
    · exact v_eqS ok_less ok_less
  cases w with
  | true => rw [e_ifT e1]; exact e_op rfl rfl v_cmp
  | false => rw [e_ifF e1]; exact e_op rfl rfl w_eqI
section
variable {e : Env'} {m : Mem} {a a2 b : AE} {x y : D} {ds es : List D}
theorem x_revL {m1 : Mem} (h : b e m = .ok (.tup ds) m1) : eRevL (eCall bList (aCons b aNil)) e m = .ok (.ref (m1.length + 1)) (m1 ++ [.lst ds] ++ [.lst ds.reverse]) := by
  have h1 : eCall bList (aCons b aNil) e m = .ok (.ref m1.length) (m1 ++ [.lst ds]) := e_call (a_c h rfl) rfl
  unfold eRevL
  rw [h1, v_bind]
  have h2 : (m1 ++ [Cell.lst ds])[m1.length]? = some (.lst ds) := new_get
  simp only [h2]
  simp
/-- [x] + list(ds)[::-1] -/
theorem x_cat1 (ha : ∀ m', Pre m m' → a e m' = .ok x m') (hb : ∀ m', Pre m m' → b e m' = .ok (.tup ds) m') (hl : ds.length < 100000) : ∃ n m', eOp dAdd (eCall mkLst (aCons a aNil)) (eRevL (eCall bList (aCons b aNil))) e m = .ok (.ref n) m' ∧ Pre m m' ∧ m'[n]? = some (.lst (x :: ds.reverse)) ∧ m.length ≤ n := by
  have h1 : eCall mkLst (aCons a aNil) e m = .ok (.ref m.length) (m ++ [.lst [x]]) := e_lst (a_c (ha m .refl) rfl)
  have h2 := x_revL (hb (m ++ [.lst [x]]) .add)
  have k1 : (m ++ [Cell.lst [x]] ++ [Cell.lst ds] ++ [Cell.lst ds.reverse])[m.length]? = some (.lst [x]) := Pre.add _ _ (Pre.add _ _ new_get)
  have k2 : (m ++ [Cell.lst [x]] ++ [Cell.lst ds] ++ [Cell.lst ds.reverse])[(m ++ [Cell.lst [x]]).length + 1]? = some (.lst ds.reverse) := by
    have := new_get (m := m ++ [Cell.lst [x]] ++ [Cell.lst ds]) (c := .lst ds.reverse)
    rw [List.length_append (bs := [Cell.lst ds])] at this
    exact this
  have h3 := w_catL k1 k2 (by simp; show _ ≤ 16777216; omega)
  exact ⟨_, _, e_op h1 h2 h3, ((Pre.add.trans .add).trans .add).trans .add, new_get, by simp only [List.length_append, List.length_singleton]; omega⟩
/-- … + [y] -/
theorem x_cat2 {z : AE} {n : Nat} {m' : Mem} (hz : z e m = .ok (.ref n) m') (p : Pre m m') (hn : m'[n]? = some (.lst es)) (ha : a2 e m' = .ok y m') (hl : es.length < 100000) : ∃ n m', eOp dAdd z (eCall mkLst (aCons a2 aNil)) e m = .ok (.ref n) m' ∧ Pre m m' ∧ m'[n]? = some (.lst (es ++ [y])) ∧ m.length ≤ n := by
  have h1 : eCall mkLst (aCons a2 aNil) e m' = .ok (.ref m'.length) (m' ++ [.lst [y]]) := e_lst (a_c ha rfl)
  have h3 := w_catL (Pre.add (x := [Cell.lst [y]]) _ _ hn) new_get (by simp; show _ ≤ 16777216; omega)
  exact ⟨_, _, e_op hz h1 h3, (p.trans .add).trans .add, new_get, by have := p.len; simp only [List.length_append, List.length_singleton]; omega⟩
/-- left.extend(..) -/
theorem x_ext {z : AE} {n i kl : Nat} {m' : Mem} (hz : z e m = .ok (.ref n) m') (p : Pre m m') (hn : m'[n]? = some (.lst es)) (he : e[i]? = some (some (.ref kl))) (hk : m[kl]? = some (.lst ds)) (hl : ds.length + es.length ≤ 1000000) : sExp (eMt isL mExtend (eVar i) (aCons z aNil)) e m = .nx e (m'.set kl (.lst (ds ++ es))) := by
  refine s_exp (x := .non) (e_mt (v_var he) (w_isL hk) (a_c hz rfl) ?_)
  unfold mExtend
  simp only [p _ _ hk, hn]
  exact if_pos (Nat.le_trans hl (by exact Nat.le_of_ble_eq_true rfl))
theorem v_maxL {n : Nat} {i : Int} {l : List Int} (hn : m[n]? = some (.lst ((i :: l).map D.int))) : bMax [.ref n] m = .ok (.int (l.foldl max i)) m := by
  unfold bMax bMinMax
  have : itemsD (.ref n) m = some ((i :: l).map D.int) := by unfold itemsD; simp only [hn]
  simp only [this, Ab.intsD_map]
theorem cutD_map {α β : Type} (f : α → β) (l : List α) (lo hi : Option Int) : Ab.cutD (l.map f) lo hi = (Ab.cutD l lo hi).map f := by
  unfold Ab.cutD
  simp [List.map_take, List.map_drop]
end
end Cl
set_option Elab.async false
set_option linter.all false
set_option maxRecDepth 100000
/-! # the law's own run -/
namespace Bk
def isEn : Fe → Bool
  | .en => true
  | _ => false
structure LI (bs : List (List Stm)) (C : Nat) (c : Cfg) (k : Nat) : Prop where
  vl : c.vals.length = C
  fr : ∀ s, Fe.st s ∈ c.stk → okS C bs.length s ∧ szS s ≤ 38
  en : c.still = c.stk.countP isEn
  sl : c.said.length ≤ k
  kl : c.stk.length ≤ 45 + 45 * k
theorem sz_mem : ∀ {b : List Stm} {s : Stm}, s ∈ b → szS s ≤ szB b
  | t :: b, s, h => by
    simp only [szB]
    rcases List.mem_cons.mp h with rfl | h
    · omega
    · have := sz_mem h; omega
theorem en_map (b : List Stm) : (b.map Fe.st).countP isEn = 0 := by
  rw [List.countP_eq_zero]
  intro f hf
  obtain ⟨s, _, rfl⟩ := List.mem_map.mp hf
  simp [isEn]
theorem st_map {b : List Stm} {s : Stm} (h : Fe.st s ∈ b.map Fe.st) : s ∈ b := by
  obtain ⟨t, ht, e⟩ := List.mem_map.mp h
  cases e
  exact ht
theorem LI.nxt {bs : List (List Stm)} {C : Nat} {c : Cfg} {k : Nat} (hok : ∀ b ∈ bs, szB b ≤ 38 ∧ okB C bs.length b) (L : LI bs C c k) : LI bs C (nxt bs c) (k + 1) := by
  obtain ⟨vals, said, stk, still⟩ := c
  obtain ⟨h1, h2, h3, h4, h5⟩ := L
  dsimp only at h1 h2 h3 h4 h5
  cases stk with
  | nil => exact ⟨h1, h2, h3, Nat.le_succ_of_le h4, by show ([] : List Fe).length ≤ _; simp⟩
  | cons f r =>
    have h2r : ∀ s, Fe.st s ∈ r → okS C bs.length s ∧ szS s ≤ 38 := fun s hs => h2 s (List.mem_cons_of_mem _ hs)
    rw [List.countP_cons] at h3
    rw [List.length_cons] at h5
    have lb : ∀ b : List Stm, szB b ≤ 38 → b.length ≤ 38 := fun b h => Nat.le_trans (Cl.szB_len b) h
    cases f with
    | bg => exact ⟨h1, h2r, by show still = r.countP isEn; simpa [isEn] using h3, by show said.length ≤ _; omega, by show r.length ≤ _; omega⟩
    | jn => exact ⟨h1, h2r, by show still = r.countP isEn; simpa [isEn] using h3, by show said.length ≤ _; omega, by show r.length ≤ _; omega⟩
    | en => exact ⟨h1, h2r, by show still - 1 = r.countP isEn; simp [isEn] at h3; omega, by show said.length ≤ _; omega, by show r.length ≤ _; omega⟩
    | st s =>
      obtain ⟨o1, z1⟩ := h2 s List.mem_cons_self
      have h3' : still = r.countP isEn := by simpa [isEn] using h3
      cases s with
      | set i z => exact ⟨by show (vals.set i _).length = _; simpa using h1, h2r, h3', by show said.length ≤ _; omega, by show r.length ≤ _; omega⟩
      | say z => exact ⟨h1, h2r, h3', by show (said ++ [_]).length ≤ _; simp; omega, by show r.length ≤ _; omega⟩
      | call q =>
        have hb : ∀ s ∈ bs.getD q [], okS C bs.length s ∧ szS s ≤ 38 := fun s hs => by
          have hq : q < bs.length := o1
          rw [List.getD_eq_getElem?_getD, List.getElem?_eq_getElem hq, Option.getD_some] at hs
          have := hok _ (List.getElem_mem hq)
          have := sz_mem hs
          exact ⟨okB_mem (hok _ (List.getElem_mem hq)).2 hs, by omega⟩
        have hbl : (bs.getD q []).length ≤ 38 := by
          have hq : q < bs.length := o1
          rw [List.getD_eq_getElem?_getD, List.getElem?_eq_getElem hq, Option.getD_some]
          exact lb _ (hok _ (List.getElem_mem hq)).1
        refine ⟨h1, fun s hs => ?_, ?_, by show said.length ≤ _; omega, ?_⟩
        · have hs : Fe.st s ∈ Fe.bg :: ((bs.getD q []).map Fe.st ++ Fe.en :: r) := hs
          rcases List.mem_cons.mp hs with e | hs
          · cases e
          · rcases List.mem_append.mp hs with hs | hs
            · exact hb s (st_map hs)
            · rcases List.mem_cons.mp hs with e | hs
              · cases e
              · exact h2r s hs
        · show still + 1 = (Fe.bg :: ((bs.getD q []).map Fe.st ++ Fe.en :: r)).countP isEn
          rw [List.countP_cons, List.countP_append, en_map, List.countP_cons, h3']
          simp [isEn]
        · show (Fe.bg :: ((bs.getD q []).map Fe.st ++ Fe.en :: r)).length ≤ _
          simp only [List.length_cons, List.length_append, List.length_map]; omega
      | ifs w a b x y =>
        have hx : ∀ z : List Stm, (z = x ∨ z = y) → (∀ s ∈ z, okS C bs.length s ∧ szS s ≤ 38) ∧ z.length ≤ 38 := fun z hz => by
          simp only [szS] at z1
          have l1 := Cl.szB_len x
          have l2 := Cl.szB_len y
          rcases hz with rfl | rfl
          · exact ⟨fun s hs => ⟨okB_mem o1.2.2.1 hs, by have := sz_mem hs; omega⟩, by omega⟩
          · exact ⟨fun s hs => ⟨okB_mem o1.2.2.2 hs, by have := sz_mem hs; omega⟩, by omega⟩
        obtain ⟨q1, q2⟩ := hx (if tst w a b vals then x else y) (by by_cases e : tst w a b vals = true <;> simp [e])
        refine ⟨h1, fun s hs => ?_, ?_, by show said.length ≤ _; omega, ?_⟩
        · have hs : Fe.st s ∈ (if tst w a b vals then x else y).map Fe.st ++ Fe.jn :: r := hs
          rcases List.mem_append.mp hs with hs | hs
          · exact q1 s (st_map hs)
          · rcases List.mem_cons.mp hs with e | hs
            · cases e
            · exact h2r s hs
        · show still = ((if tst w a b vals then x else y).map Fe.st ++ Fe.jn :: r).countP isEn
          rw [List.countP_append, en_map, List.countP_cons, h3']
          simp [isEn]
        · show ((if tst w a b vals then x else y).map Fe.st ++ Fe.jn :: r).length ≤ _
          simp only [List.length_cons, List.length_append, List.length_map]; omega
      | whl w a b x =>
        simp only [szS] at z1
        have l1 := Cl.szB_len x
        refine ⟨h1, fun s hs => ?_, ?_, by show said.length ≤ _; omega, ?_⟩
        · have hs : Fe.st s ∈ (if tst w a b vals then x.map Fe.st ++ Fe.st (.whl w a b x) :: r else r) := hs
          by_cases e : tst w a b vals = true
          · rw [if_pos e] at hs
            rcases List.mem_append.mp hs with hs | hs
            · exact ⟨okB_mem o1.2.2 (st_map hs), by have := sz_mem (st_map hs); omega⟩
            · exact h2 s hs
          · rw [if_neg e] at hs
            exact h2r s hs
        · show still = (if tst w a b vals then x.map Fe.st ++ Fe.st (.whl w a b x) :: r else r).countP isEn
          by_cases e : tst w a b vals = true
          · rw [if_pos e, List.countP_append, en_map, List.countP_cons, h3']
            simp [isEn]
          · rw [if_neg e, h3']
        · show (if tst w a b vals then x.map Fe.st ++ Fe.st (.whl w a b x) :: r else r).length ≤ _
          by_cases e : tst w a b vals = true
          · rw [if_pos e]
            simp only [List.length_cons, List.length_append, List.length_map]; omega
          · rw [if_neg e]; omega
end Bk
namespace Cl
open PySem PySem.Spec PyProof.Rows L2 Ab Bk
def feD : Fe → D
  | .bg => .tup [.str "begin"]
  | .jn => .tup [.str "join"]
  | .en => .tup [.str "end"]
  | .st s => stD s
def wdF : Fe → Str
  | .bg => "begin"
  | .jn => "join"
  | .en => "end"
  | .st s => wdS s
theorem ok_wdF (f : Fe) : PyData.strOk (wdF f) = true := by
  cases f with
  | bg => exact ok_begin
  | jn => exact ok_join
  | en => exact ok_end
  | st s => exact ok_wdS s
theorem at0_feD (f : Fe) : ∃ ds, feD f = .tup ds ∧ atI ds 0 = some (.str (wdF f)) := by
  cases f with
  | st s => exact at0_stD s
  | _ => exact ⟨_, rfl, rfl⟩
theorem w_wdF {i : Nat} {e : Env'} {m : Mem} {f : Fe} {z : Str} {k : Bool} (h : e[i]? = some (some (feD f))) (hz : PyData.strOk z = true) (hk : decide (wdF f = z) = k) : tVal (eOp dEq (eOp dIx (eVar i) (eC (.int 0))) (eC (.str z))) e m = .ok k m := by
  obtain ⟨ds, e1, e2⟩ := at0_feD f
  rw [e1] at h
  exact t_v (e_op (e_op (v_var h) rfl (v_ixT e2)) rfl (by rw [v_eqS (ok_wdF f) hz, hk]))
abbrev rE (parts bgn : D) (most kv ks steps : Nat) (still : Nat) (kl : Nat) (x8 x9 x10 x11 : Option D) : Env' := [some parts, some bgn, some (I most), some (.ref kv), some (.ref ks), some (I steps), some (I still), some (.ref kl), x8, x9, x10, x11]
noncomputable def rChain : AS :=
    (sIf (tVal (eOp dEq (eOp dIx (eVar 8) (eC (.int 0))) (eC (.str "set"))))
    (sAsg (eCall f_law_value (aCons (eOp dIx (eVar 8) (eC (.int 2))) (aCons (eVar 3) (aNil)))) (gS dSet (eVar 3) (eOp dIx (eVar 8) (eC (.int 1)))))
    (sIf (tVal (eOp dEq (eOp dIx (eVar 8) (eC (.int 0))) (eC (.str "say"))))
    (sExp (eMt isL mAppend (eVar 4) (aCons (eCall f_law_value (aCons (eOp dIx (eVar 8) (eC (.int 1))) (aCons (eVar 3) (aNil)))) (aNil))))
    (sIf (tVal (eOp dEq (eOp dIx (eVar 8) (eC (.int 0))) (eC (.str "call"))))
    (sSeq (sAsg (eOp dAdd (eVar 6) (eC (.int 1))) (gN 6))
    (sExp (eMt isL mExtend (eVar 7) (aCons (eOp dAdd (eOp dAdd (eCall mkLst (aCons (eCall mkTup (aCons (eC (.str "end")) (aNil))) (aNil))) (eRevL (eCall bList (aCons (eOp dIx (eOp dIx (eVar 0) (eC (.int 1))) (eOp dIx (eVar 8) (eC (.int 1)))) (aNil))))) (eCall mkLst (aCons (eCall mkTup (aCons (eC (.str "begin")) (aNil))) (aNil)))) (aNil)))))
    (sIf (tVal (eOp dEq (eOp dIx (eVar 8) (eC (.int 0))) (eC (.str "if"))))
    (sExp (eMt isL mExtend (eVar 7) (aCons (eOp dAdd (eCall mkLst (aCons (eCall mkTup (aCons (eC (.str "join")) (aNil))) (aNil))) (eRevL (eCall bList (aCons (eOp dIx (eVar 8) (eIf (tVal (eCall f_law_test_holds (aCons (eOp dIx (eVar 8) (eC (.int 1))) (aCons (eVar 3) (aNil))))) (eC (.int 2)) (eC (.int 3)))) (aNil))))) (aNil))))
    (sIf (tAn (tVal (eOp dEq (eOp dIx (eVar 8) (eC (.int 0))) (eC (.str "while")))) (tVal (eCall f_law_test_holds (aCons (eOp dIx (eVar 8) (eC (.int 1))) (aCons (eVar 3) (aNil))))))
    (sExp (eMt isL mExtend (eVar 7) (aCons (eOp dAdd (eCall mkLst (aCons (eVar 8) (aNil))) (eRevL (eCall bList (aCons (eOp dIx (eVar 8) (eC (.int 2))) (aNil))))) (aNil))))
    (sIf (tVal (eOp dEq (eOp dIx (eVar 8) (eC (.int 0))) (eC (.str "end"))))
    (sAsg (eOp dSub (eVar 6) (eC (.int 1))) (gN 6))
    (sSkip)))))))
structure LS (m : Mem) (kv ks kl : Nat) (c : Cfg) : Prop where
  v : m[kv]? = some (.lst (c.vals.map D.int))
  s : m[ks]? = some (.lst (c.said.map D.int))
  l : m[kl]? = some (.lst (c.stk.map feD).reverse)
  n1 : kv ≠ ks
  n2 : kv ≠ kl
  n3 : ks ≠ kl
theorem LS.pre {m m' : Mem} {kv ks kl : Nat} {c : Cfg} (L : LS m kv ks kl c) (p : Pre m m') : LS m' kv ks kl c := ⟨p _ _ L.v, p _ _ L.s, p _ _ L.l, L.n1, L.n2, L.n3⟩
theorem rev_app (a b : List Fe) : ((a ++ b).map feD).reverse = (b.map feD).reverse ++ (a.map feD).reverse := by simp
theorem ixN_nat {n i : Nat} (h : i < n) : ixN n (i : Int) = some i := by
  unfold ixN
  rw [if_pos (by omega), if_pos (by omega)]
  simp
theorem w_chain {bs : List (List Stm)} {C n : Nat} {c : Cfg} {f : Fe} {k : List Fe} {m : Mem} {kv ks kl most steps : Nat} {bgn : D} {x9 x10 x11 : Option D} (hs : c.stk = f :: k) (L : LS m kv ks kl { c with stk := k }) (Q : LI bs C c n) (hn : n ≤ 6000) (hb : ∀ b ∈ bs, szB b ≤ 38) :
    ∃ m', rChain (rE (.tup [I C, rtD bs]) bgn most kv ks steps c.still kl (some (feD f)) x9 x10 x11) m = .nx (rE (.tup [I C, rtD bs]) bgn most kv ks steps (nxt bs c).still kl (some (feD f)) x9 x10 x11) m' ∧ LS m' kv ks kl (nxt bs c) ∧ Kp [kv, ks, kl] m m' := by
  obtain ⟨vals, said, stk, still⟩ := c
  dsimp only at hs
  subst hs
  obtain ⟨h1, h2, h3, h4, h5⟩ := Q
  dsimp only at h1 h2 h3 h4 h5
  obtain ⟨V, S, K, n1, n2, n3⟩ := L
  dsimp only at V S K
  rw [List.length_cons] at h5
  let E (st : Nat) : Env' := rE (.tup [I C, rtD bs]) bgn most kv ks steps st kl (some (feD f)) x9 x10 x11
  have t : ∀ {z : Str} {b : Bool}, PyData.strOk z = true → decide (wdF f = z) = b → tVal (eOp dEq (eOp dIx (eVar 8) (eC (.int 0))) (eC (.str z))) (E still) m = .ok b m := fun hz hk => w_wdF rfl hz hk
  have l4 : ∀ b : List Stm, szB b ≤ 38 → b.length ≤ 38 := fun b h => Nat.le_trans (szB_len b) h
  have kl3 : Kp [kv, ks, kl] m m := .refl
  have ext : ∀ {n : Nat} {m' : Mem} {es : List D} {stk' : List Fe}, m'[n]? = some (.lst es) → Pre m m' → (k.map feD).reverse ++ es = (stk'.map feD).reverse → ∀ st, LS (m'.set kl (.lst ((k.map feD).reverse ++ es))) kv ks kl ⟨vals, said, stk', st⟩ ∧ Kp [kv, ks, kl] m (m'.set kl (.lst ((k.map feD).reverse ++ es))) := fun hn p he st =>
    ⟨⟨by rw [List.getElem?_set_ne (Ne.symm n2)]; exact p _ _ V, by rw [List.getElem?_set_ne (Ne.symm n3)]; exact p _ _ S, by rw [get_set (p _ _ K), he], n1, n2, n3⟩, (Kp.pre p).trans (.set (by simp))⟩
  cases f with
  | bg => exact ⟨m, s_ifF (t ok_set rfl) (s_ifF (t ok_say rfl) (s_ifF (t ok_call rfl) (s_ifF (t ok_if rfl) (s_ifF (t_anF (t ok_while rfl)) (s_ifF (t ok_end rfl) rfl))))), ⟨V, S, K, n1, n2, n3⟩, .refl⟩
  | jn => exact ⟨m, s_ifF (t ok_set rfl) (s_ifF (t ok_say rfl) (s_ifF (t ok_call rfl) (s_ifF (t ok_if rfl) (s_ifF (t_anF (t ok_while rfl)) (s_ifF (t ok_end rfl) rfl))))), ⟨V, S, K, n1, n2, n3⟩, .refl⟩
  | en =>
    have h0 : 1 ≤ still := by rw [h3, List.countP_cons]; simp [isEn]
    have e1 : (.int ((still : Int) - 1) : D) = I (still - 1) := by unfold I; congr 1; omega
    refine ⟨m, s_ifF (t ok_set rfl) (s_ifF (t ok_say rfl) (s_ifF (t ok_call rfl) (s_ifF (t ok_if rfl) (s_ifF (t_anF (t ok_while rfl)) (s_ifT (t ok_end rfl) (s_asg (x := I (still - 1)) (e_op rfl rfl ?_))))))), ⟨V, S, K, n1, n2, n3⟩, .refl⟩
    show Ab.R.ok (D.int ((still : Int) - 1)) m = _
    rw [e1]
  | st s =>
    obtain ⟨o1, z1⟩ := h2 s List.mem_cons_self
    cases s with
    | set i z =>
      have hi : i < vals.length := by rw [h1]; exact o1.1
      refine ⟨m.set kv (.lst ((vals.set i (val z vals)).map D.int)), s_ifT (t ok_set rfl) (s_asgG (d := .int (val z vals)) (m1 := m) (e_call (a_c (e_op rfl rfl (v_ixT (d := smD z) rfl)) (a_c rfl rfl)) (w_value V (ok_ne o1.2) o1.2.2)) ?_), ⟨get_set V, by rw [List.getElem?_set_ne n1]; exact S, by rw [List.getElem?_set_ne n2]; exact K, n1, n2, n3⟩, .set (by simp)⟩
      rw [v_gS]
      show (match dSet (.ref kv) (.int (i : Int)) (.int (val z vals)) m with | .ok _ m => Ab.R.ok (E still) m | _ => .no) = _
      rw [v_setL V (ixN_nat (by rw [List.length_map]; exact hi)), List.map_set]
      rfl
    | say z =>
      refine ⟨m.set ks (.lst ((said.map D.int) ++ [.int (val z vals)])), s_ifF (t ok_set rfl) (s_ifT (t ok_say rfl) (s_exp (e_mt rfl (w_isL S) (a_c (e_call (a_c (e_op rfl rfl (v_ixT (d := smD z) rfl)) (a_c rfl rfl)) (w_value V (ok_ne o1) o1.2)) rfl) (v_append S (by rw [List.length_map]; show _ < 16777216; omega))))), ⟨by rw [List.getElem?_set_ne (Ne.symm n1)]; exact V, by rw [get_set S]; simp [nxt], by rw [List.getElem?_set_ne n3]; exact K, n1, n2, n3⟩, .set (by simp)⟩
    | call q =>
      have hq : q < bs.length := o1
      have eb : bs.getD q [] = bs[q] := by rw [List.getD_eq_getElem?_getD, List.getElem?_eq_getElem hq, Option.getD_some]
      have hbq := l4 _ (hb _ (List.getElem_mem hq))
      obtain ⟨i1, m1, v1, p1, k1, _⟩ := x_cat1 (e := E (still + 1)) (m := m) (a := eCall mkTup (aCons (eC (.str "end")) (aNil))) (x := feD .en) (b := eOp dIx (eOp dIx (eVar 0) (eC (.int 1))) (eOp dIx (eVar 8) (eC (.int 1)))) (ds := bdD bs[q]) (fun m' _ => e_tup (a_c rfl rfl)) (fun m' _ => e_op (e_op rfl rfl (v_ixT (d := rtD bs) rfl)) (e_op rfl rfl (v_ixT (d := I q) rfl)) (v_ixT (atI_nat (by rw [List.getElem?_map, List.getElem?_eq_getElem hq]; rfl)))) (by rw [bdD_len]; omega)
      obtain ⟨i2, m2, v2, p2, k2, _⟩ := x_cat2 (e := E (still + 1)) (a2 := eCall mkTup (aCons (eC (.str "begin")) (aNil))) (y := feD .bg) v1 p1 k1 (e_tup (a_c rfl rfl)) (by simp [bdD_len]; omega)
      have v3 := x_ext (i := 7) v2 p2 k2 rfl K (by simp [bdD_len]; omega)
      obtain ⟨q1, q2⟩ := ext (stk' := .bg :: (bs[q].map Fe.st ++ Fe.en :: k)) k2 p2 (by rw [bdD_map]; simp [feD, Function.comp_def]) (still + 1)
      refine ⟨_, s_ifF (t ok_set rfl) (s_ifF (t ok_say rfl) (s_ifT (t ok_call rfl) (s_seq (s_asg (x := I (still + 1)) rfl) v3))), ?_, q2⟩
      show LS _ kv ks kl ⟨vals, said, .bg :: ((bs.getD q []).map Fe.st ++ Fe.en :: k), still + 1⟩
      rw [eb]
      exact q1
    | ifs w a b x y =>
      simp only [szS] at z1
      have hx : (if tst w a b vals then x else y).length ≤ 38 := by
        have l1 := szB_len x
        have l2 := szB_len y
        split <;> omega
      obtain ⟨i1, m1, v1, p1, k1, _⟩ := x_cat1 (e := E still) (m := m) (a := eCall mkTup (aCons (eC (.str "join")) (aNil))) (x := feD .jn) (b := eOp dIx (eVar 8) (eIf (tVal (eCall f_law_test_holds (aCons (eOp dIx (eVar 8) (eC (.int 1))) (aCons (eVar 3) (aNil))))) (eC (.int 2)) (eC (.int 3)))) (ds := bdD (if tst w a b vals then x else y)) (fun m' _ => e_tup (a_c rfl rfl)) (fun m' pm => by
        have tt : tVal (eCall f_law_test_holds (aCons (eOp dIx (eVar 8) (eC (.int 1))) (aCons (eVar 3) (aNil)))) (E still) m' = .ok (tst w a b vals) m' := t_v (e_call (a_c (e_op rfl rfl (v_ixT (d := tsD w a b) rfl)) (a_c rfl rfl)) (w_tholds (pm _ _ V) o1.1 o1.2.1))
        cases hz : tst w a b vals with
        | true =>
          rw [hz] at tt
          exact e_op rfl (e_ifT tt) (v_ixT (d := .tup (bdD x)) rfl)
        | false =>
          rw [hz] at tt
          exact e_op rfl (e_ifF tt) (v_ixT (d := .tup (bdD y)) rfl)) (by rw [bdD_len]; omega)
      have v3 := x_ext (i := 7) v1 p1 k1 rfl K (by simp [bdD_len]; omega)
      obtain ⟨q1, q2⟩ := ext (stk' := (if tst w a b vals then x else y).map Fe.st ++ Fe.jn :: k) k1 p1 (by rw [bdD_map]; simp [feD, Function.comp_def]) still
      exact ⟨_, s_ifF (t ok_set rfl) (s_ifF (t ok_say rfl) (s_ifF (t ok_call rfl) (s_ifT (t ok_if rfl) v3))), q1, q2⟩
    | whl w a b x =>
      simp only [szS] at z1
      have tt : tVal (eCall f_law_test_holds (aCons (eOp dIx (eVar 8) (eC (.int 1))) (aCons (eVar 3) (aNil)))) (E still) m = .ok (tst w a b vals) m := t_v (e_call (a_c (e_op rfl rfl (v_ixT (d := tsD w a b) rfl)) (a_c rfl rfl)) (w_tholds V o1.1 o1.2.1))
      cases hz : tst w a b vals with
      | true =>
        rw [hz] at tt
        have l1 := szB_len x
        obtain ⟨i1, m1, v1, p1, k1, _⟩ := x_cat1 (e := E still) (m := m) (a := eVar 8) (x := feD (.st (.whl w a b x))) (b := eOp dIx (eVar 8) (eC (.int 2))) (ds := bdD x) (fun m' _ => rfl) (fun m' _ => e_op rfl rfl (v_ixT (d := .tup (bdD x)) rfl)) (by rw [bdD_len]; omega)
        have v3 := x_ext (i := 7) v1 p1 k1 rfl K (by simp [bdD_len]; omega)
        obtain ⟨q1, q2⟩ := ext (stk' := x.map Fe.st ++ Fe.st (.whl w a b x) :: k) k1 p1 (by rw [bdD_map]; simp [feD, Function.comp_def]) still
        refine ⟨_, s_ifF (t ok_set rfl) (s_ifF (t ok_say rfl) (s_ifF (t ok_call rfl) (s_ifF (t ok_if rfl) (s_ifT (t_anT (t ok_while rfl) tt) v3)))), ?_, q2⟩
        show LS _ kv ks kl ⟨vals, said, if tst w a b vals then x.map Fe.st ++ Fe.st (.whl w a b x) :: k else k, still⟩
        rw [hz, if_pos rfl]
        exact q1
      | false =>
        rw [hz] at tt
        refine ⟨m, s_ifF (t ok_set rfl) (s_ifF (t ok_say rfl) (s_ifF (t ok_call rfl) (s_ifF (t ok_if rfl) (s_ifF (t_anT (t ok_while rfl) tt) (s_ifF (t ok_end rfl) rfl))))), ?_, .refl⟩
        show LS _ kv ks kl ⟨vals, said, if tst w a b vals then x.map Fe.st ++ Fe.st (.whl w a b x) :: k else k, still⟩
        rw [hz, if_neg Bool.false_ne_true]
        exact ⟨V, S, K, n1, n2, n3⟩
end Cl
set_option Elab.async false
set_option linter.all false
set_option maxRecDepth 100000
/-! # the law's own run: the loop -/
namespace Bk
theorem LI.zero {bs : List (List Stm)} {C : Nat} {begins : List Int} (h0 : 0 < bs.length) (hok : ∀ b ∈ bs, szB b ≤ 38 ∧ okB C bs.length b) (hC : begins.length = C) : LI bs C (cfg0 bs begins) 0 := by
  have e : bs.getD 0 [] = bs[0] := by rw [List.getD_eq_getElem?_getD, List.getElem?_eq_getElem h0, Option.getD_some]
  have hb := hok _ (List.getElem_mem h0)
  have hl := Nat.le_trans (Cl.szB_len bs[0]) hb.1
  unfold cfg0
  rw [e]
  refine ⟨hC, fun s hs => ?_, ?_, by simp, ?_⟩
  · have hs : Fe.st s ∈ Fe.bg :: (bs[0].map Fe.st ++ [Fe.en]) := hs
    rcases List.mem_cons.mp hs with e | hs
    · cases e
    · rcases List.mem_append.mp hs with hs | hs
      · have := sz_mem (st_map hs)
        exact ⟨okB_mem hb.2 (st_map hs), by omega⟩
      · simp at hs
  · show 1 = (Fe.bg :: (bs[0].map Fe.st ++ [Fe.en])).countP isEn
    rw [List.countP_cons, List.countP_append, en_map]
    simp [isEn]
  · show (Fe.bg :: (bs[0].map Fe.st ++ [Fe.en])).length ≤ _
    simp only [List.length_cons, List.length_append, List.length_map, List.length_nil]; omega
end Bk
namespace Cl
open PySem PySem.Spec PyProof.Rows L2 Ab Bk
noncomputable def rMax : AT := tVal (eOp dGt (eCall bMax (aCons (eOp dAdd (eLc (iE (eVar 3)) (gN 10) (tYesA) (eCall bAbs (aCons (eVar 10) (aNil))) [10]) (eLc (iE (eSl (eVar 4) (oSome (eUn dNeg (eC (.int 1)))) (oNone))) (gN 11) (tYesA) (eCall bAbs (aCons (eVar 11) (aNil))) [11])) (aNil))) (eOp dPowW (eOp dPow (eC (.int 10)) (eC (.int 50))) (eC (.int 18))))
theorem w_big (e : Env') (m : Mem) : ∃ z, eOp dPowW (eOp dPow (eC (.int 10)) (eC (.int 50))) (eC (.int 18)) e m = .ok (.int z) m := by
  refine ⟨((10 : Int) ^ 50) ^ 18, e_op (m1 := m) (m2 := m) (x := .int ((10 : Int) ^ 50)) (e_op rfl rfl ?_) rfl ?_⟩
  · unfold dPow
    dsimp only
    rw [if_pos (by decide)]; rfl
  · unfold dPowW
    dsimp only
    rw [if_pos (by unfold CPowW; decide +kernel)]; rfl
theorem w_rMax {parts bgn : D} {most kv ks steps still kl : Nat} {x8 x9 x10 x11 : Option D} {vals said : List Int} {m : Mem} (V : m[kv]? = some (.lst (vals.map D.int))) (S : m[ks]? = some (.lst (said.map D.int))) (h0 : vals ≠ []) (h1 : vals.length < 1000) (h2 : said.length < 100000) :
    ∃ b m', rMax (rE parts bgn most kv ks steps still kl x8 x9 x10 x11) m = .ok b m' ∧ Pre m m' := by
  let E : Env' := rE parts bgn most kv ks steps still kl x8 x9 x10 x11
  let g : Int → Int := fun i => if i < 0 then -i else i
  have ft : ∀ l : List Int, l.filter (fun _ => true) = l := fun l => List.filter_eq_self.mpr fun _ _ => rfl
  obtain ⟨m1, v1, p1, k1⟩ := lc_grow (it := iE (eVar 3)) (tg := gN 10) (tt := tYesA) (el := eCall bAbs (aCons (eVar 10) (aNil))) (vs := [10]) (e := E) (m := m) (m1 := m) (gd := [(kv, .lst (vals.map D.int))]) D.int vals (fun _ => true) (fun i => .int (g i)) (by rw [w_iE]; show (Ab.R.ok (D.ref kv) m).bind itD = _; rw [v_bind]; unfold itD; simp only [V]) rfl (fun p hp => by rw [List.mem_singleton] at hp; subst hp; exact V) (by show _ < 16777216; omega) (fun i hi m' pm => ⟨_, m', rfl, rfl, .refl, fun _ => ⟨m', e_call (a_c rfl rfl) rfl, .refl⟩⟩)
  have e2 : eSl (eVar 4) (oSome (eUn dNeg (eC (.int 1)))) (oNone) E m1 = .ok (.ref m1.length) (m1 ++ [.lst ((Ab.cutD said (some (-1)) none).map D.int)]) := by
    rw [w_sl]
    show (Ab.R.ok (D.ref ks) m1).bind _ = _
    rw [v_bind]
    show (Ab.R.ok (some (-1 : Int)) m1).bind _ = _
    rw [v_bind]
    show (Ab.R.ok none m1).bind _ = _
    rw [v_bind, w_slL (p1 _ _ S), cutD_map]
  have hcl : (Ab.cutD said (some (-1)) none).length ≤ said.length := by
    unfold Ab.cutD
    rw [List.length_take, List.length_drop]; omega
  generalize Ab.cutD said (some (-1)) none = cs at e2 hcl
  have kk : (m1 ++ [Cell.lst (cs.map D.int)])[m1.length]? = some (.lst (cs.map D.int)) := new_get
  have pk : Pre m1 (m1 ++ [Cell.lst (cs.map D.int)]) := .add
  generalize m1 ++ [Cell.lst (cs.map D.int)] = m2 at e2 kk pk
  obtain ⟨m3, v3, p3, k3⟩ := lc_grow (it := iE (eSl (eVar 4) (oSome (eUn dNeg (eC (.int 1)))) (oNone))) (tg := gN 11) (tt := tYesA) (el := eCall bAbs (aCons (eVar 11) (aNil))) (vs := [11]) (e := E) (m := m1) (m1 := m2) (gd := [(m1.length, .lst (cs.map D.int))]) D.int cs (fun _ => true) (fun i => .int (g i)) (by rw [w_iE, e2, v_bind]; unfold itD; simp only [kk]) rfl (fun p hp => by rw [List.mem_singleton] at hp; subst hp; exact kk) (by show _ < 16777216; omega) (fun i hi m' pm => ⟨_, m', rfl, rfl, .refl, fun _ => ⟨m', e_call (a_c rfl rfl) rfl, .refl⟩⟩)
  rw [ft] at k1 k3
  have h4 := w_catL (p3 _ _ (pk _ _ k1)) k3 (by simp; show _ ≤ 16777216; omega)
  have em : vals.map (fun i => D.int (g i)) ++ cs.map (fun i => D.int (g i)) = ((vals ++ cs).map g).map D.int := by simp [Function.comp_def]
  rw [em] at h4
  obtain ⟨i, l, hil⟩ : ∃ i l, (vals ++ cs).map g = i :: l := by
    cases vals with
    | nil => exact absurd rfl h0
    | cons a b => exact ⟨_, _, rfl⟩
  rw [hil] at h4
  obtain ⟨z, hz⟩ := w_big E (m3 ++ [.lst ((i :: l).map D.int)])
  exact ⟨_, _, t_v (e_op (e_call (a_c (e_op v1 v3 h4) rfl) (v_maxL new_get)) hz rfl), p1.trans (pk.trans (p3.trans .add))⟩
noncomputable def rCond : AT := tAn (tVal (eOp dGt (eCall bLen (aCons (eVar 7) (aNil))) (eC (.int 0)))) (tVal (eOp dLt (eVar 5) (eVar 2)))
noncomputable def rBody : AS :=
    (sSeq (sAsg (eOp dIx (eVar 7) (eUn dNeg (eC (.int 1)))) (gN 8))
    (sSeq (sIf (tAn (tVal (eOp dEq (eOp dIx (eVar 8) (eC (.int 0))) (eC (.str "call")))) (tVal (eOp dEq (eVar 6) (eC (.int 20)))))
    (sRet (eCall mkTup (aCons (eCall bTuple (aCons (eVar 4) (aNil))) (aCons (eC (.str "fault")) (aCons (eCall bTuple (aCons (eVar 3) (aNil))) (aNil))))))
    (sSkip))
    (sSeq (sExp (eMt isL mPop (eVar 7) aNil))
    (sSeq (sAsg (eOp dAdd (eVar 5) (eC (.int 1))) (gN 5))
    (sSeq rChain
    (sIf rMax
    (sRet (eC .non))
    (sSkip)))))))
theorem call_wd (f : Fe) (k : List Fe) : decide (wdF f = ("call" : Str)) = isCall (f :: k) := by
  cases f with
  | st s => cases s <;> rfl
  | _ => rfl
def outD (c : Cfg) : D := .tup [smD c.said, .str (Str.ofString (rword c)), smD c.vals]
theorem v_popL {m : Mem} {n : Nat} {l : List D} {x : D} (h : m[n]? = some (.lst (l ++ [x]))) : mPop (.ref n) [] m = .ok x (m.set n (.lst l)) := by
  unfold mPop
  simp only [h]
  simp
theorem w_run_loop {bs : List (List Stm)} {C : Nat} {bgn : D} {most kv ks kl : Nat} (hok : ∀ b ∈ bs, szB b ≤ 38 ∧ okB C bs.length b) (hC : 1 ≤ C ∧ C ≤ 900) (hm : most ≤ 5000) : ∀ (n steps : Nat) (c : Cfg) (m : Mem) (x8 x9 x10 x11 : Option D), steps + n = most → LS m kv ks kl c → LI bs C c steps →
    (∃ d m', whileN rCond rBody (n + 1) (rE (.tup [I C, rtD bs]) bgn most kv ks steps c.still kl x8 x9 x10 x11) m = .rt d m' ∧ (d = .non ∨ d = outD (runN bs n c)) ∧ Kp [kv, ks, kl] m m') ∨
    (∃ st y8 y9 y10 y11 m', whileN rCond rBody (n + 1) (rE (.tup [I C, rtD bs]) bgn most kv ks steps c.still kl x8 x9 x10 x11) m = .nx (rE (.tup [I C, rtD bs]) bgn most kv ks st (runN bs n c).still kl y8 y9 y10 y11) m' ∧ LS m' kv ks kl (runN bs n c) ∧ Kp [kv, ks, kl] m m')
  | 0, steps, c, m, x8, x9, x10, x11, hs, L, Q => by
    refine .inr ⟨steps, x8, x9, x10, x11, m, whileF ?_, L, .refl⟩
    have t2 : tVal (eOp dLt (eVar 5) (eVar 2)) (rE (.tup [I C, rtD bs]) bgn most kv ks steps c.still kl x8 x9 x10 x11) m = .ok false m := t_v (e_op rfl rfl (by rw [lt_I, decide_eq_false (by omega)]))
    have t1 : tVal (eOp dGt (eCall bLen (aCons (eVar 7) (aNil))) (eC (.int 0))) (rE (.tup [I C, rtD bs]) bgn most kv ks steps c.still kl x8 x9 x10 x11) m = .ok (decide (((c.stk.map feD).reverse.length : Int) > 0)) m := t_v (e_op (e_call (a_c rfl rfl) (v_lenL L.l)) rfl rfl)
    unfold rCond
    cases hz : decide (((c.stk.map feD).reverse.length : Int) > 0) with
    | true => rw [hz] at t1; exact t_anT t1 t2
    | false => rw [hz] at t1; exact t_anF t1
  | n + 1, steps, c, m, x8, x9, x10, x11, hs, L, Q => by
    obtain ⟨vals, said, stk, still⟩ := c
    have t1 : tVal (eOp dGt (eCall bLen (aCons (eVar 7) (aNil))) (eC (.int 0))) (rE (.tup [I C, rtD bs]) bgn most kv ks steps still kl x8 x9 x10 x11) m = .ok (decide (((stk.map feD).reverse.length : Int) > 0)) m := t_v (e_op (e_call (a_c rfl rfl) (v_lenL L.l)) rfl rfl)
    cases stk with
    | nil => exact .inr ⟨steps, x8, x9, x10, x11, m, whileF (t_anF t1), L, .refl⟩
    | cons f k =>
      have t2 : tVal (eOp dLt (eVar 5) (eVar 2)) (rE (.tup [I C, rtD bs]) bgn most kv ks steps still kl x8 x9 x10 x11) m = .ok true m := t_v (e_op rfl rfl (by rw [lt_I, decide_eq_true (by omega)]))
      have tc : rCond (rE (.tup [I C, rtD bs]) bgn most kv ks steps still kl x8 x9 x10 x11) m = .ok true m := by
        refine t_anT ?_ t2
        rw [t1, decide_eq_true (by simp)]
      have hl : m[kl]? = some (.lst ((k.map feD).reverse ++ [feD f])) := by rw [L.l]; simp
      have s1 : sAsg (eOp dIx (eVar 7) (eUn dNeg (eC (.int 1)))) (gN 8) (rE (.tup [I C, rtD bs]) bgn most kv ks steps still kl x8 x9 x10 x11) m = .nx (rE (.tup [I C, rtD bs]) bgn most kv ks steps still kl (some (feD f)) x9 x10 x11) m := s_asg (e_op rfl (e_un rfl rfl) (v_ixL hl atI_m1))
      have q1 : tVal (eOp dEq (eOp dIx (eVar 8) (eC (.int 0))) (eC (.str "call"))) (rE (.tup [I C, rtD bs]) bgn most kv ks steps still kl (some (feD f)) x9 x10 x11) m = .ok (isCall (f :: k)) m := w_wdF rfl ok_call (call_wd f k)
      have q2 : tVal (eOp dEq (eVar 6) (eC (.int 20))) (rE (.tup [I C, rtD bs]) bgn most kv ks steps still kl (some (feD f)) x9 x10 x11) m = .ok (decide (still = 20)) m := t_v (e_op rfl rfl (by
        show dEq (.int (still : Int)) (.int 20) m = _
        rw [w_eqI]; congr 2; exact decide_eq_decide.mpr (by omega)))
      have q3 : tAn (tVal (eOp dEq (eOp dIx (eVar 8) (eC (.int 0))) (eC (.str "call")))) (tVal (eOp dEq (eVar 6) (eC (.int 20)))) (rE (.tup [I C, rtD bs]) bgn most kv ks steps still kl (some (feD f)) x9 x10 x11) m = .ok (flt ⟨vals, said, f :: k, still⟩) m := by
        unfold flt
        dsimp only
        cases hz : isCall (f :: k) with
        | true => rw [hz] at q1; rw [Bool.true_and]; exact t_anT q1 q2
        | false => rw [hz] at q1; rw [Bool.false_and]; exact t_anF q1
      cases hf : flt ⟨vals, said, f :: k, still⟩ with
      | true =>
        have hr : runN bs (n + 1) ⟨vals, said, f :: k, still⟩ = ⟨vals, said, f :: k, still⟩ := by
          show (if stop _ = true then _ else _) = _
          rw [if_pos (by unfold stop; rw [hf]; simp)]
        rw [hf] at q3
        have hw : rword ⟨vals, said, f :: k, still⟩ = "fault" := by unfold rword; rw [if_neg (by simp), if_pos hf]
        exact .inl ⟨.tup [smD said, .str "fault", smD vals], m, whileR tc (s_seq s1 (s_seqR (s_ifT q3 (s_ret (e_tup (a_c (e_call (a_c rfl rfl) (v_tupL L.s)) (a_c rfl (a_c (e_call (a_c rfl rfl) (v_tupL L.v)) rfl)))))))), .inr (by rw [hr]; unfold outD; rw [hw]), .refl⟩
      | false =>
        rw [hf] at q3
        have hr : runN bs (n + 1) ⟨vals, said, f :: k, still⟩ = runN bs n (nxt bs ⟨vals, said, f :: k, still⟩) := by
          show (if stop _ = true then _ else _) = _
          rw [if_neg (by unfold stop; rw [hf]; simp)]
        rw [hr]
        -- pop
        have s3 : sExp (eMt isL mPop (eVar 7) aNil) (rE (.tup [I C, rtD bs]) bgn most kv ks steps still kl (some (feD f)) x9 x10 x11) m = .nx (rE (.tup [I C, rtD bs]) bgn most kv ks steps still kl (some (feD f)) x9 x10 x11) (m.set kl (.lst (k.map feD).reverse)) := s_exp (e_mt rfl (w_isL hl) rfl (v_popL hl))
        have L3 : LS (m.set kl (.lst (k.map feD).reverse)) kv ks kl ⟨vals, said, k, still⟩ := ⟨by rw [List.getElem?_set_ne (Ne.symm L.n2)]; exact L.v, by rw [List.getElem?_set_ne (Ne.symm L.n3)]; exact L.s, get_set hl, L.n1, L.n2, L.n3⟩
        have k3 : Kp [kv, ks, kl] m (m.set kl (.lst (k.map feD).reverse)) := .set (by simp)
        have s4 : sAsg (eOp dAdd (eVar 5) (eC (.int 1))) (gN 5) (rE (.tup [I C, rtD bs]) bgn most kv ks steps still kl (some (feD f)) x9 x10 x11) (m.set kl (.lst (k.map feD).reverse)) = .nx (rE (.tup [I C, rtD bs]) bgn most kv ks (steps + 1) still kl (some (feD f)) x9 x10 x11) (m.set kl (.lst (k.map feD).reverse)) := s_asg (x := I (steps + 1)) rfl
        obtain ⟨m5, v5, L5, k5⟩ := w_chain (C := C) (bs := bs) (bgn := bgn) (most := most) (steps := steps + 1) (x9 := x9) (x10 := x10) (x11 := x11) (c := ⟨vals, said, f :: k, still⟩) rfl L3 Q (by omega) fun b hb => (hok b hb).1
        have Q5 := Q.nxt hok
        obtain ⟨b, m6, v6, p6⟩ := w_rMax (parts := .tup [I C, rtD bs]) (bgn := bgn) (most := most) (steps := steps + 1) (still := (nxt bs ⟨vals, said, f :: k, still⟩).still) (kl := kl) (x8 := some (feD f)) (x9 := x9) (x10 := x10) (x11 := x11) L5.v L5.s (fun z => by have := Q5.vl; rw [z] at this; simp at this; omega) (by have := Q5.vl; omega) (by have := Q5.sl; omega)
        have k6 : Kp [kv, ks, kl] m m6 := k3.trans (k5.trans (Kp.pre p6))
        cases b with
        | true => exact .inl ⟨.non, m6, whileR tc (s_seq s1 (s_seq (s_ifF q3 rfl) (s_seq s3 (s_seq s4 (s_seq v5 (s_ifT v6 rfl)))))), .inl rfl, k6⟩
        | false =>
          have hb6 : rBody (rE (.tup [I C, rtD bs]) bgn most kv ks steps still kl x8 x9 x10 x11) m = .nx (rE (.tup [I C, rtD bs]) bgn most kv ks (steps + 1) (nxt bs ⟨vals, said, f :: k, still⟩).still kl (some (feD f)) x9 x10 x11) m6 := s_seq s1 (s_seq (s_ifF q3 rfl) (s_seq s3 (s_seq s4 (s_seq v5 (s_ifF v6 rfl)))))
          rcases w_run_loop hok hC hm n (steps + 1) (nxt bs ⟨vals, said, f :: k, still⟩) m6 (some (feD f)) x9 x10 x11 (by omega) (L5.pre p6) Q5 with ⟨d, m', w1, w2, w3⟩ | ⟨st, y8, y9, y10, y11, m', w1, w2, w3⟩
          · exact .inl ⟨d, m', whileT tc hb6 w1, w2, k6.trans w3⟩
          · exact .inr ⟨st, y8, y9, y10, y11, m', whileT tc hb6 w1, w2, k6.trans w3⟩
end Cl
set_option Elab.async false
set_option linter.all false
set_option maxRecDepth 100000
/-! # the law's own run, whole -/
namespace Cl
open PySem PySem.Spec PyProof.Rows L2 Ab Bk
theorem w_law_run {bs : List (List Stm)} {C : Nat} {begins : List Int} {most : Nat} {m : Mem} (hok : ∀ b ∈ bs, szB b ≤ 38 ∧ okB C bs.length b) (h0 : 0 < bs.length) (hC : 1 ≤ C ∧ C ≤ 900) (hb : begins.length = C) (hm : most ≤ 5000) :
    ∃ d m', f_law_run [.tup [I C, rtD bs], smD begins, I most] m = .ok d m' ∧ (d = .non ∨ d = outD (runN bs most (cfg0 bs begins))) ∧ Pre m m' := by
  let P : D := .tup [I C, rtD bs]
  let E0 : Env' := [some P, some (smD begins), some (I most), none, none, none, none, none, none, none, none, none]
  obtain ⟨m1, hm1⟩ : ∃ m1 : Mem, m1 = m ++ [.lst (begins.map D.int)] ++ [.lst []] := ⟨_, rfl⟩
  have kv : m1[m.length]? = some (.lst (begins.map D.int)) := by rw [hm1]; exact Pre.add _ _ new_get
  have ks : m1[m.length + 1]? = some (.lst []) := by
    have := new_get (m := m ++ [Cell.lst (begins.map D.int)]) (c := .lst [])
    rw [List.length_append] at this
    rw [hm1]; exact this
  have pm1 : Pre m m1 := by rw [hm1]; exact Pre.add.trans .add
  have lm1 : m1.length = m.length + 2 := by rw [hm1]; simp
  let E1 (x7 : Option D) : Env' := [some P, some (smD begins), some (I most), some (.ref m.length), some (.ref (m.length + 1)), some (I 0), some (I 1), x7, none, none, none, none]
  have s1 : sAsg (eCall mkTup (aCons (eCall bList (aCons (eVar 1) (aNil))) (aCons (eCall mkLst (aNil)) (aCons (eC (.int 0)) (aCons (eC (.int 1)) (aNil)))))) (gT 4 (gsCons (gN 3) (gsCons (gN 4) (gsCons (gN 5) (gsCons (gN 6) (gsNil)))))) E0 m = .nx (E1 none) m1 := by
    refine s_asgG (d := .tup [.ref m.length, .ref (m.length + 1), I 0, I 1]) (m1 := m1) (e_tup (a_c (e_call (a_c rfl rfl) rfl) (a_c (x := .ref (m.length + 1)) (m1 := m1) ?_ (a_c rfl (a_c rfl rfl))))) rfl
    have := e_lst (e := E0) (aa := aNil) (ds := []) (m := m ++ [Cell.lst (begins.map D.int)]) rfl
    rw [List.length_append] at this
    rw [hm1]; exact this
  have e0 : bs.getD 0 [] = bs[0] := by rw [List.getD_eq_getElem?_getD, List.getElem?_eq_getElem h0, Option.getD_some]
  have hl0 := Nat.le_trans (szB_len bs[0]) (hok _ (List.getElem_mem h0)).1
  obtain ⟨i1, m2, v2, p2, k2, l2⟩ := x_cat1 (e := E1 none) (m := m1) (a := eCall mkTup (aCons (eC (.str "end")) (aNil))) (x := feD .en) (b := eOp dIx (eOp dIx (eVar 0) (eC (.int 1))) (eC (.int 0))) (ds := bdD bs[0]) (fun m' _ => e_tup (a_c rfl rfl)) (fun m' _ => e_op (e_op rfl rfl (v_ixT (d := rtD bs) rfl)) rfl (v_ixT (atI_nat (j := 0) (by rw [List.getElem?_map, List.getElem?_eq_getElem h0]; rfl)))) (by rw [bdD_len]; omega)
  obtain ⟨kl, m3, v3, p3, k3, l3⟩ := x_cat2 (e := E1 none) (a2 := eCall mkTup (aCons (eC (.str "begin")) (aNil))) (y := feD .bg) v2 p2 k2 (e_tup (a_c rfl rfl)) (by simp [bdD_len]; omega)
  have LS0 : LS m3 m.length (m.length + 1) kl (cfg0 bs begins) := by
    refine ⟨p3 _ _ kv, p3 _ _ ks, ?_, by omega, by omega, by omega⟩
    rw [k3]
    unfold cfg0
    rw [e0, bdD_map]
    simp [feD, Function.comp_def]
  have LI0 := LI.zero h0 hok hb
  have kp : ∀ {m' : Mem}, Kp [m.length, m.length + 1, kl] m3 m' → Pre m m' := fun k => fun i c e => k i c (p3 _ _ (pm1 _ _ e)) (by
    have := (List.getElem?_eq_some_iff.mp e).1
    simp; omega)
  have hE : E1 (some (.ref kl)) = rE P (smD begins) most m.length (m.length + 1) 0 (cfg0 bs begins).still kl none none none none := rfl
  unfold f_law_run
  rcases w_run_loop (bgn := smD begins) hok hC hm most 0 (cfg0 bs begins) m3 none none none none (by omega) LS0 LI0 with ⟨d, m', w1, w2, w3⟩ | ⟨st, y8, y9, y10, y11, m', w1, w2, w3⟩
  · refine ⟨d, m', af_rt (E := E0) rfl (s_seq s1 (s_seq (s_asg v3) (s_seqR (s := sWhile rCond rBody) ?_))), w2, kp w3⟩
    exact sWhile_of w1 (by intro z; cases z)
  · generalize hc : runN bs most (cfg0 bs begins) = c at *
    have sw : sWhile rCond rBody (E1 (some (.ref kl))) m3 = .nx (rE P (smD begins) most m.length (m.length + 1) st c.still kl y8 y9 y10 y11) m' := sWhile_of w1 (by intro z; cases z)
    have V := w2.v
    have S := w2.s
    have L := w2.l
    have hlen : ∀ y9, eCall bLen (aCons (eVar 7) (aNil)) (rE P (smD begins) most m.length (m.length + 1) st c.still kl y8 y9 y10 y11) m' = .ok (I c.stk.length) m' := fun y9 => by
      have := e_call (f := bLen) (aa := aCons (eVar 7) aNil) (e := rE P (smD begins) most m.length (m.length + 1) st c.still kl y8 y9 y10 y11) (m := m') (a_c rfl rfl) (v_lenL L)
      rw [this]; simp [I]
    refine ⟨outD c, m', af_rt (E := E0) rfl (s_seq s1 (s_seq (s_asg v3) (s_seq (s := sWhile rCond rBody) sw (s_seq (e1 := rE P (smD begins) most m.length (m.length + 1) st c.still kl y8 (some (.bl (!c.stk.isEmpty && flt c))) y10 y11) (s_asg (x := .bl (!c.stk.isEmpty && flt c)) ?_) (s_ret (e_tup (a_c (e_call (a_c rfl rfl) (v_tupL S)) (a_c (x := .str (Str.ofString (rword c))) ?_ (a_c (e_call (a_c rfl rfl) (v_tupL V)) rfl)))))))) ), .inr rfl, kp w3⟩
    · cases hs : c.stk with
      | nil =>
        have h1 := hlen y9
        rw [hs] at h1
        rw [v_eand, e_op h1 rfl (r := .ok (.bl false) m') rfl]; rfl
      | cons f k =>
        have h1 := hlen y9
        rw [hs] at h1
        have hl : m'[kl]? = some (.lst ((k.map feD).reverse ++ [feD f])) := by rw [L, hs]; simp
        obtain ⟨ds, e1, e2⟩ := at0_feD f
        have q1 : eOp dEq (eOp dIx (eOp dIx (eVar 7) (eUn dNeg (eC (.int 1)))) (eC (.int 0))) (eC (.str "call")) (rE P (smD begins) most m.length (m.length + 1) st c.still kl y8 y9 y10 y11) m' = .ok (.bl (isCall (f :: k))) m' :=
          e_op (e_op (e_op rfl (e_un rfl rfl) (v_ixL hl (by rw [atI_m1, e1]))) rfl (v_ixT e2)) rfl (by rw [v_eqS (ok_wdF f) ok_call, call_wd f k])
        have q2 : eOp dEq (eVar 6) (eC (.int 20)) (rE P (smD begins) most m.length (m.length + 1) st c.still kl y8 y9 y10 y11) m' = .ok (.bl (decide (c.still = 20))) m' := e_op rfl rfl (by
          show dEq (.int (c.still : Int)) (.int 20) m' = _
          rw [w_eqI]; congr 2; exact decide_eq_decide.mpr (by omega))
        have q0 : eOp dGt (eCall bLen (aCons (eVar 7) (aNil))) (eC (.int 0)) (rE P (smD begins) most m.length (m.length + 1) st c.still kl y8 y9 y10 y11) m' = .ok (.bl true) m' := e_op h1 rfl (by
          show Ab.R.ok (D.bl (decide (((f :: k).length : Int) > 0))) m' = _
          rw [decide_eq_true (by simp)])
        rw [v_eand, q0, v_bind, v_asB, v_bind, if_pos rfl, v_eand, q1, v_bind, v_asB, v_bind]
        unfold flt
        rw [hs]
        cases hz : isCall (f :: k) with
        | true => rw [if_pos rfl, q2]; rfl
        | false => rw [if_neg Bool.false_ne_true]; rfl
    · have t1 : tVal (eOp dEq (eCall bLen (aCons (eVar 7) (aNil))) (eC (.int 0))) (rE P (smD begins) most m.length (m.length + 1) st c.still kl y8 (some (.bl (!c.stk.isEmpty && flt c))) y10 y11) m' = .ok c.stk.isEmpty m' := t_v (e_op (hlen _) rfl (by
        show dEq (.int (c.stk.length : Int)) (.int 0) m' = _
        rw [w_eqI]
        cases c.stk with
        | nil => rfl
        | cons a b => rw [decide_eq_false (by simp; omega)]; rfl))
      unfold rword
      cases hs : c.stk.isEmpty with
      | true => rw [hs] at t1; rw [e_ifT t1]; rfl
      | false =>
        rw [hs] at t1
        rw [e_ifF t1]
        cases hf : flt c with
        | true => rw [e_ifT (m1 := m') rfl]; rfl
        | false => rw [e_ifF (m1 := m') rfl]; rfl
end Cl
set_option Elab.async false
set_option linter.all false
set_option maxRecDepth 100000
/-! # the law compares -/
namespace Cl
open PySem PySem.Spec PyProof.Rows L2 Ab Bk
theorem w_eqB {m : Mem} {a b : Bool} : dEq (.bl a) (.bl b) m = .ok (.bl (decide (a = b))) m := by
  unfold dEq
  rw [show toP m DEEP (.bl a) = some (.bool a) from rfl, show toP m DEEP (.bl b) = some (.bool b) from rfl]
  dsimp only
  rw [if_pos ⟨rfl, rfl⟩]
  cases a <;> cases b <;> rfl
theorem w_neB {m : Mem} {a b : Bool} : dNe (.bl a) (.bl b) m = .ok (.bl (!decide (a = b))) m := by
  unfold dNe
  rw [show toP m DEEP (.bl a) = some (.bool a) from rfl, show toP m DEEP (.bl b) = some (.bool b) from rfl]
  dsimp only
  rw [if_pos ⟨rfl, rfl⟩]
  cases a <;> cases b <;> rfl
theorem canZ : ∀ l : List Int, PyData.canLayAll0 (l.map PyData.int) = true
  | [] => by simp [PyData.canLayAll0]
  | x :: l => by
    have := canZ l
    simp [PyData.canLayAll0, PyData.canLay0, this]
theorem depZ : ∀ l : List Int, PyData.depthAll (l.map PyData.int) = 0
  | [] => by simp [PyData.depthAll]
  | x :: l => by
    have := depZ l
    simp [PyData.depthAll, PyData.depth, this]
theorem shapedZ (l : List Int) : SeqAt.shaped (.tuple (l.map PyData.int)) = true := by
  simp [SeqAt.shaped, PyData.canLay0, PyData.depth, canZ, depZ]
theorem mapZ {m : Mem} {f : Nat} : ∀ l : List Int, (l.map D.int).mapM (toP m f) = some (l.map PyData.int)
  | [] => rfl
  | x :: l => by
    rw [List.map_cons, List.mapM_cons, mapZ l]
    show (toP m f (.int x)).bind _ = _
    rw [toP_int]; rfl
theorem toP_Z {m : Mem} {l : List Int} : toP m DEEP (smD l) = some (.tuple (l.map PyData.int)) := by
  show ((l.map D.int).mapM (toP m 69)).map PyData.tuple = _
  rw [mapZ]; rfl
theorem v_neSelf {m : Mem} {l : List Int} : dNe (smD l) (smD l) m = .ok (.bl false) m := by
  unfold dNe
  rw [toP_Z]
  dsimp only
  rw [if_pos ⟨shapedZ l, shapedZ l⟩, SeqAt.eqv_refl _ (SeqAt.canLay_of_shaped (shapedZ l))]
  rfl
section
variable {e : Env'} {a b : AE} {x y : D} {ds es : List D} {k : Bool}
theorem ev_isi2 {T1 T2 t : String} {b1 b2 : Bool} (h : Ev e a x) (ht : ∀ m, tyN x m = some t) (h1 : kitB t T1 = some b1) (h2 : kitB t T2 = some b2) : Ev e (eIsi2 T1 T2 a) (.bl (b1 || b2)) := fun m => by
  obtain ⟨m1, v1, p1⟩ := h m
  refine ⟨m1, ?_, p1⟩
  unfold eIsi2
  rw [v1, v_bind, ht]
  dsimp only
  rw [h1, h2]
theorem zip_self (ds : List D) : zipD ds ds = ds.map fun d => .tup [d, d] := by
  unfold zipD
  induction ds with
  | nil => rfl
  | cons d ds ih => rw [List.zip_cons_cons, List.map_cons, List.map_cons, ih]
theorem ei_zpp (ha : Ev e a (.tup ds)) (hb : Ev e b (.tup es)) : EI e (iA zpp (aCons a (aCons b aNil))) (zipD ds es) := fun m => by
  obtain ⟨m1, v1, p1⟩ := ha m
  obtain ⟨m2, v2, p2⟩ := hb m1
  refine ⟨[], m2, ?_, p1.trans p2, fun _ _ => gd_nil⟩
  rw [w_iA, a_c v1 (a_c v2 rfl), v_bind]
  rfl
end
theorem kb_it : kitB "int" "tuple" = some false := by decide +kernel
theorem kb_il : kitB "int" "list" = some false := by decide +kernel
theorem kb_st : kitB "str" "tuple" = some false := by decide +kernel
theorem kb_sl : kitB "str" "list" = some false := by decide +kernel
theorem kb_sb : kitB "str" "bool" = some false := by decide +kernel
theorem kb_tl : kitB "tuple" "list" = some false := by decide +kernel
theorem li_leaf {n : Nat} {d : D} {t : String} (ht : ∀ m, tyN d m = some t) (h1 : kitB t "tuple" = some false) (h2 : kitB t "list" = some false) (h3 : kitB t "bool" = some false) (he : ∀ m, dEq d d m = .ok (.bl true) m) : Fn (f_law_is (n + 1)) [d, d] (.bl true) := by
  rw [show f_law_is (n + 1) = afOf 4 (a_law_is (f_law_is n)) from rfl]
  refine fn_of (sr_seq (e1 := [some d, some d, none, none]) (sn_ifF (et_v (ev_isi2 (ev_v 1) ht h1 h2)) sn_skip) (sr_ret (ev_and (k := true) (l := true) (ev_op0 (ev_isi (ev_v 0) ht h3) (ev_isi (ev_v 1) ht h3) fun m => w_eqB) fun _ => ev_op0 (ev_v 0) (ev_v 1) he)))
theorem li_int {n : Nat} (i : Int) : Fn (f_law_is (n + 1)) [.int i, .int i] (.bl true) := li_leaf (fun m => rfl) kb_it kb_il kb_ib fun m => by rw [w_eqI, decide_eq_true rfl]
theorem li_str {n : Nat} {s : Str} (h : PyData.strOk s = true) : Fn (f_law_is (n + 1)) [.str s, .str s] (.bl true) := li_leaf (fun m => rfl) kb_st kb_sl kb_sb fun m => by rw [v_eqS h h, decide_eq_true rfl]
theorem li_tup {n : Nat} {ds : List D} (h : ∀ d ∈ ds, Fn (f_law_is n) [d, d] (.bl true)) (hl : ds.length < 2 ^ 24) : Fn (f_law_is (n + 1)) [.tup ds, .tup ds] (.bl true) := by
  rw [show f_law_is (n + 1) = afOf 4 (a_law_is (f_law_is n)) from rfl]
  have i0 : Ev [some (.tup ds), some (.tup ds), none, none] (eIsi "tuple" (eVar 0)) (.bl true) := ev_isi (tn := "tuple") (ev_v 0) (fun m => rfl) kb_tt
  have i1 : Ev [some (.tup ds), some (.tup ds), none, none] (eIsi "tuple" (eVar 1)) (.bl true) := ev_isi (tn := "tuple") (ev_v 1) (fun m => rfl) kb_tt
  refine fn_of (sr_seqR (sr_ifT (et_v (ev_isi2 (t := "tuple") (ev_v 1) (fun m => rfl) kb_tt kb_tl)) (sr_seq (e1 := [some (.tup ds), some (.tup ds), none, none]) (sn_ifF (et_nop (et_or (k := false) (l := false) (et_v (ev_op0 i0 i1 fun m => w_neB)) fun _ => et_nt (k := true) (et_v (ev_isi2 (t := "tuple") (ev_v 0) (fun m => rfl) kb_tt kb_tl))) rfl) sn_skip) (sr_ret (ev_and (k := true) (l := true) (ev_eqI (ev_lenT (ev_v 0)) (ev_lenT (ev_v 1)) (decide_eq_true rfl)) fun _ => ?_)))))
  refine ev_allOf (fun d => .tup [d, d]) ds (by rw [← zip_self]; exact ei_zpp (ev_v 0) (ev_v 1)) hl fun d hd => ⟨[some (.tup ds), some (.tup ds), some d, some d], fun m => rfl, ev_fn (ea_c (ev_v 2) (ea_c (ev_v 3) ea_nil)) (h d hd)⟩
theorem li_sm {n : Nat} {l : List Int} (hl : l.length < 2 ^ 24) : Fn (f_law_is (n + 2)) [smD l, smD l] (.bl true) := li_tup (fun d hd => by
  obtain ⟨i, _, rfl⟩ := List.mem_map.mp hd
  exact li_int i) (by rw [List.length_map]; exact hl)
theorem ok_rword (c : Cfg) : PyData.strOk (Str.ofString (rword c)) = true := by
  unfold rword
  split
  · decide +kernel
  · split <;> decide +kernel
theorem li_out {c : Cfg} (h1 : c.said.length < 2 ^ 24) (h2 : c.vals.length < 2 ^ 24) : Fn (f_law_is 20) [outD c, outD c] (.bl true) := li_tup (n := 19) (fun d hd => by
  simp only [List.mem_cons, List.not_mem_nil, or_false] at hd
  rcases hd with rfl | rfl | rfl
  · exact li_sm h1
  · exact li_str (ok_rword c)
  · exact li_sm h2) (by show _ < 16777216; simp)
end Cl
namespace Bk
/-! ### longer runs -/
theorem runN_stop {bs : List (List Stm)} {c : Cfg} (h : stop c = true) : ∀ n, runN bs n c = c
  | 0 => rfl
  | n + 1 => by show (if stop c = true then _ else _) = _; rw [if_pos h]
theorem runN_add (bs : List (List Stm)) : ∀ (a b : Nat) (c : Cfg), runN bs (a + b) c = runN bs b (runN bs a c)
  | 0, b, c => by rw [Nat.zero_add]; rfl
  | a + 1, b, c => by
    rw [show a + 1 + b = (a + b) + 1 from by omega]
    show (if stop c = true then c else runN bs (a + b) (nxt bs c)) = runN bs b (if stop c = true then c else runN bs a (nxt bs c))
    by_cases h : stop c = true
    · rw [if_pos h, if_pos h, runN_stop h]
    · rw [if_neg h, if_neg h, runN_add bs a b]
theorem nxt_said (bs : List (List Stm)) (c : Cfg) : c.said <+: (nxt bs c).said := by
  obtain ⟨vals, said, stk, still⟩ := c
  cases stk with
  | nil => exact List.prefix_refl _
  | cons f k =>
    cases f with
    | st s => cases s <;> first | exact List.prefix_refl _ | exact List.prefix_append _ _
    | _ => exact List.prefix_refl _
theorem runN_said (bs : List (List Stm)) : ∀ (n : Nat) (c : Cfg), c.said <+: (runN bs n c).said
  | 0, c => List.prefix_refl _
  | n + 1, c => by
    show c.said <+: (if stop c = true then c else runN bs n (nxt bs c)).said
    by_cases h : stop c = true
    · rw [if_pos h]; exact List.prefix_refl _
    · rw [if_neg h]; exact (nxt_said bs c).trans (runN_said bs n _)
theorem said_mono (bs : List (List Stm)) {a b : Nat} (h : a ≤ b) (c : Cfg) : (runN bs a c).said <+: (runN bs b c).said := by
  rw [show b = a + (b - a) from by omega, runN_add]
  exact runN_said bs _ _
theorem LI.run {bs : List (List Stm)} {C : Nat} (hok : ∀ b ∈ bs, szB b ≤ 38 ∧ okB C bs.length b) : ∀ (n : Nat) {c : Cfg} {k : Nat}, LI bs C c k → LI bs C (runN bs n c) (k + n)
  | 0, c, k, L => L
  | n + 1, c, k, L => by
    show LI bs C (if stop c = true then c else runN bs n (Bk.nxt bs c)) _
    by_cases h : stop c = true
    · rw [if_pos h]; exact ⟨L.vl, L.fr, L.en, by have := L.sl; omega, by have := L.kl; omega⟩
    · rw [if_neg h, show k + (n + 1) = k + 1 + n from by omega]; exact LI.run hok n (L.nxt hok)
end Bk
set_option Elab.async false
set_option linter.all false
set_option maxRecDepth 100000
/-! # the law -/
namespace Cl
open PySem PySem.Spec PyProof.Rows L2 Ab Bk
theorem w_oN {e : Env'} {m : Mem} : oNone e m = .ok none m := rfl
theorem v_itL {n : Nat} {m : Mem} {ds : List D} (h : m[n]? = some (.lst ds)) : itD (.ref n) m = .ok (ds, [(n, .lst ds)]) m := by
  unfold itD; simp only [h]
theorem filt_t {α : Type} (l : List α) : l.filter (fun _ => true) = l := List.filter_eq_self.mpr fun _ _ => rfl
theorem w_handN (ns : List Int) (hl : ns.length ≤ 63) : ∃ h m, f_law_hand [.ref 0] [.rol (ns.map D.int)] = .ok (.ref h) m ∧ HandOK h m := by
  have hz : sizeLine = 2 ^ 24 := rfl
  obtain ⟨m0, hm0⟩ : ∃ m0 : Mem, m0 = [Cell.rol (ns.map D.int)] := ⟨_, rfl⟩
  obtain ⟨m1, hm1⟩ : ∃ m1 : Mem, m1 = m0 ++ [Cell.lst ((ns.take 63).map D.int)] := ⟨_, rfl⟩
  have q1 : m1[m0.length]? = some (.lst ((ns.take 63).map D.int)) := by rw [hm1]; exact new_get
  have e1 : eSl (eVar 0) (oNone) (oSome (eC (.int 63))) [some (.ref 0), none, none] m0 = .ok (.ref m0.length) m1 := by
    have : dSl (.ref 0) none (some ((63 : Nat) : Int)) m0 = .ok (.ref m0.length) m1 := by
      unfold dSl
      rw [hm0]
      show Ab.R.ok (D.ref [Cell.rol (ns.map D.int)].length) ([Cell.rol (ns.map D.int)] ++ [.lst (Ab.cutD (ns.map D.int) none (some ((63 : Nat) : Int)))]) = _
      rw [cut_lo, hm1, hm0, ← List.map_take]
    rw [w_sl, v_v0 (z := none), v_bind, w_oN, v_bind, w_oS, v_c, v_bind]
    exact this
  obtain ⟨f, hf⟩ : ∃ f : Int → Int, f = fun i => if i < 0 then -i else i := ⟨_, rfl⟩
  have e2 := lc_eq (it := iE (eSl (eVar 0) (oNone) (oSome (eC (.int 63))))) (tg := gN 2) (tt := tYesA) (el := eCall bAbs (aCons (eCall bInt (aCons (eVar 2) (aNil))) (aNil))) (vs := [2]) (e := [some (.ref 0), none, none]) (m := m0) D.int (ns.take 63) (fun _ => true) (fun i => D.int (f i)) (by rw [w_iE, e1, v_bind, v_itL q1]) rfl (fun acc => gd_add (gd_one q1)) (by simp; omega) (fun i _ acc => ⟨_, rfl, rfl, fun _ => by rw [hf]; rfl⟩)
  rw [filt_t] at e2
  obtain ⟨cells, hcells⟩ : ∃ cells : List Int, cells = (ns.take 63).map f := ⟨_, rfl⟩
  have hmap : (ns.take 63).map (fun i => D.int (f i)) = cells.map D.int := by rw [hcells, List.map_map]; rfl
  rw [hmap] at e2
  obtain ⟨m2, hm2⟩ : ∃ m2 : Mem, m2 = m1 ++ [Cell.lst (cells.map D.int)] := ⟨_, rfl⟩
  rw [← hm2] at e2
  have q2 : m2[m1.length]? = some (.lst (cells.map D.int)) := by rw [hm2]; exact new_get
  obtain ⟨m3, hm3⟩ : ∃ m3 : Mem, m3 = m2 ++ [Cell.lst [.ref m1.length, .int 0, .int 0, .int (1 + (cells.length : Int)), .int 0]] := ⟨_, rfl⟩
  have q3 : m3[m2.length]? = some (.lst [.ref m1.length, .int 0, .int 0, .int (1 + (cells.length : Int)), .int 0]) := by rw [hm3]; exact new_get
  have q23 : m3[m1.length]? = some (.lst (cells.map D.int)) := by rw [hm3]; exact Pre.add _ _ q2
  have hlen : bLen [.ref m1.length] m2 = .ok (.int (cells.length : Int)) m2 := by rw [v_lenL q2]; simp
  refine ⟨m2.length, m3, ?_, m1.length, cells, 0, 0, 1 + (cells.length : Int), 0, q3, ?_, q23, by omega⟩
  · rw [← hm0]
    unfold f_law_hand
    exact af_rt (E := [some (.ref 0), none, none]) rfl (s_seq (s_asg e2) (s_ret (e_call (a_c rfl (a_c rfl (a_c rfl (a_c (e_op rfl (e_call (a_c rfl rfl) hlen) rfl) (a_c rfl rfl))))) (by rw [v_lst (by rw [hz]; simp), hm3]))))
  · have : m2.length = m1.length + 1 := by rw [hm2]; simp
    omega
theorem forL_bk {tg : AG} {b : AS} {gd : Gd} {d : D} {r : List D} {e e2 e3 : Env'} {m m3 : Mem} (hg : gd.Ok m) (ht : tg d e m = .ok e2 m) (hb : b e2 m = .bk e3 m3) : forL tg b gd (d :: r) e m = .nx e3 m3 := by
  rw [show forL tg b gd (d :: r) e m = _ from by unfold forL; rfl, if_pos hg, ht]
  show (match b e2 m with | .nx e m => forL tg b gd r e m | .ct e m => forL tg b gd r e m | .bk e m => .nx e m | .rt d m => .rt d m | .er x e m => .er x e m | .no => .no) = _
  rw [hb]
theorem s_seqB {s s' : AS} {e e1 : Env'} {m m1 : Mem} (h1 : s e m = .bk e1 m1) : sSeq s s' e m = .bk e1 m1 := by rw [v_seq, h1]; rfl
abbrev E11 (h : Nat) (y2 y3 y4 y5 y6 y7 y8 y9 y10 : Option D) : Env' := [some (.ref 0), some (.ref h), y2, y3, y4, y5, y6, y7, y8, y9, y10]
noncomputable def wIn : AS :=
    (sSeq (sAsg (eCall f_law_run (aCons (eVar 3) (aCons (eVar 5) (aCons (eVar 8) (aNil))))) (gN 9))
    (sSeq (sIf (tVal (eOp dIsN (eVar 9) (eC .non)))
    (sBrk)
    (sSkip))
    (sSeq (sAsg (eCall f_ran (aCons (eVar 4) (aCons (eVar 5) (aCons (eVar 8) (aNil))))) (gN 10))
    (sSeq (sIf (tOrr (tNt (tVal (eCall (f_law_is 20) (aCons (eVar 10) (aCons (eVar 9) (aNil)))))) (tVal (eOp dNe (eSl (eOp dIx (eVar 10) (eC (.int 0))) (oNone) (oSome (eCall bLen (aCons (eVar 7) (aNil))))) (eVar 7))))
    (sRet (eC (.bl false)))
    (sSkip))
    (sAsg (eOp dIx (eVar 10) (eC (.int 0))) (gN 7))))))
theorem w_inner {h bk C n : Nat} {bs : List (List Stm)} {begins : List Int} {y2 y6 : Option D} {lst : List D} (hC : 1 ≤ C ∧ C ≤ 4) (hl : 1 ≤ bs.length ∧ bs.length ≤ 5) (hok : ∀ b ∈ bs, dpB b ≤ 8 ∧ szB b ≤ 38 ∧ okB C bs.length b) (hb : begins.length = C) :
    ∀ (ms : List Nat) (p : Nat) (x8 x9 x10 : Option D) (m : Mem), (∀ q ∈ ms, p ≤ q ∧ q ≤ 5000) → ms.Pairwise (· ≤ ·) → m[bk]? = some (.ins "Book" (bookF C bs)) → m[n]? = some (.lst lst) →
    ∃ y7 y8 y9 y10 m', forL (gN 8) wIn [(n, .lst lst)] (ms.map I) (E11 h y2 (some (.tup [I C, rtD bs])) (some (.ref bk)) (some (smD begins)) y6 (some (smD (runN bs p (cfg0 bs begins)).said)) x8 x9 x10) m = .nx (E11 h y2 (some (.tup [I C, rtD bs])) (some (.ref bk)) (some (smD begins)) y6 y7 y8 y9 y10) m' ∧ Pre m m'
  | [], p, x8, x9, x10, m, _, _, _, hn => ⟨_, x8, x9, x10, m, forL_nil (gd_one hn), .refl⟩
  | q :: ms, p, x8, x9, x10, m, hq, hp, hbk, hn => by
    obtain ⟨hq1, hq2⟩ := hq q List.mem_cons_self
    have hp := List.pairwise_cons.mp hp
    have hok2 : ∀ b ∈ bs, szB b ≤ 38 ∧ okB C bs.length b := fun b hb => ⟨(hok b hb).2.1, (hok b hb).2.2⟩
    let E (x7 x8 x9 x10 : Option D) : Env' := E11 h y2 (some (.tup [I C, rtD bs])) (some (.ref bk)) (some (smD begins)) y6 x7 x8 x9 x10
    obtain ⟨elder, hel⟩ : ∃ elder, elder = (runN bs p (cfg0 bs begins)).said := ⟨_, rfl⟩
    rw [← hel]
    obtain ⟨d, m1, v1, hd, p1⟩ := w_law_run (C := C) (begins := begins) (most := q) (m := m) hok2 (by omega) (by omega) hb hq2
    have s1 : sAsg (eCall f_law_run (aCons (eVar 3) (aCons (eVar 5) (aCons (eVar 8) (aNil))))) (gN 9) (E (some (smD elder)) (some (I q)) x9 x10) m = .nx (E (some (smD elder)) (some (I q)) (some d) x10) m1 := s_asg (e_call (a_c rfl (a_c rfl (a_c rfl rfl))) v1)
    rcases hd with rfl | rfl
    · refine ⟨_, _, _, _, m1, forL_bk (gd_one hn) rfl (e3 := E (some (smD elder)) (some (I q)) (some .non) x10) (s_seq s1 (s_seqB ?_)), p1⟩
      exact s_ifT (m1 := m1) rfl rfl
    · obtain ⟨c, hc⟩ : ∃ c, c = runN bs q (cfg0 bs begins) := ⟨_, rfl⟩
      obtain ⟨m2, v2, p2⟩ := w_ran (m := m1) (b := bk) (C := C) (bs := bs) (begins := begins) (most := q) (p1 _ _ hbk) (fun b hb => ⟨(hok b hb).1, (hok b hb).2.1⟩) (fun b hb => (hok b hb).2.2) (by omega) (fun z => by rw [z] at hl; simp at hl) hb (by omega) hq2
      rw [← hc] at v2 s1
      have LIq := LI.run hok2 q (LI.zero (by omega) hok2 hb)
      rw [← hc] at LIq
      have hsl := LIq.sl
      have hvl := LIq.vl
      have s2 : sAsg (eCall f_ran (aCons (eVar 4) (aCons (eVar 5) (aCons (eVar 8) (aNil))))) (gN 10) (E (some (smD elder)) (some (I q)) (some (outD c)) x10) m1 = .nx (E (some (smD elder)) (some (I q)) (some (outD c)) (some (outD c))) m2 := s_asg (x := outD c) (e_call (a_c rfl (a_c rfl (a_c rfl rfl))) v2)
      obtain ⟨m3, v3, p3⟩ := li_out (c := c) (by show _ < 16777216; omega) (by show _ < 16777216; omega) m2
      have hpre : elder <+: c.said := by rw [hel, hc]; exact said_mono bs hq1 _
      have htk : c.said.take elder.length = elder := by
        obtain ⟨t, ht⟩ := hpre
        rw [← ht]; simp
      have e4 : eOp dNe (eSl (eOp dIx (eVar 10) (eC (.int 0))) (oNone) (oSome (eCall bLen (aCons (eVar 7) (aNil))))) (eVar 7) (E (some (smD elder)) (some (I q)) (some (outD c)) (some (outD c))) m3 = .ok (.bl false) m3 := by
        have i1 : eOp dIx (eVar 10) (eC (.int 0)) (E (some (smD elder)) (some (I q)) (some (outD c)) (some (outD c))) m3 = .ok (smD c.said) m3 := e_op rfl rfl (v_ixT rfl)
        have i2 : eSl (eOp dIx (eVar 10) (eC (.int 0))) (oNone) (oSome (eCall bLen (aCons (eVar 7) (aNil)))) (E (some (smD elder)) (some (I q)) (some (outD c)) (some (outD c))) m3 = .ok (smD elder) m3 := by
          rw [w_sl, i1, v_bind, w_oN, v_bind, w_oS]
          have : eCall bLen (aCons (eVar 7) (aNil)) (E (some (smD elder)) (some (I q)) (some (outD c)) (some (outD c))) m3 = .ok (.int (((elder.map D.int).length : Nat) : Int)) m3 := e_call (a_c rfl rfl) rfl
          rw [this, v_bind, v_bind]
          show dSl (.tup (c.said.map D.int)) none (some (((elder.map D.int).length : Nat) : Int)) m3 = _
          rw [v_slT, cut_lo, ← List.map_take, List.length_map, htk]; rfl
        exact e_op i2 rfl v_neSelf
      have t5 : tOrr (tNt (tVal (eCall (f_law_is 20) (aCons (eVar 10) (aCons (eVar 9) (aNil)))))) (tVal (eOp dNe (eSl (eOp dIx (eVar 10) (eC (.int 0))) (oNone) (oSome (eCall bLen (aCons (eVar 7) (aNil))))) (eVar 7))) (E (some (smD elder)) (some (I q)) (some (outD c)) (some (outD c))) m2 = .ok false m3 :=
        t_orF (t_nt (b := true) (t_v (e_call (a_c rfl (a_c rfl rfl)) v3))) (t_v e4)
      have hbody : wIn (E (some (smD elder)) (some (I q)) x9 x10) m = .nx (E (some (smD c.said)) (some (I q)) (some (outD c)) (some (outD c))) m3 :=
        s_seq s1 (s_seq (s_ifF (m1 := m1) rfl rfl) (s_seq s2 (s_seq (s_ifF t5 rfl) (s_asg (e_op rfl rfl (v_ixT rfl))))))
      obtain ⟨y7, y8, y9, y10, m', w1, w2⟩ := w_inner (h := h) (bk := bk) (n := n) (y2 := y2) (y6 := y6) (lst := lst) hC hl hok hb ms q (some (I q)) (some (outD c)) (some (outD c)) m3 (fun r hr => ⟨hp.1 r hr, (hq r (List.mem_cons_of_mem _ hr)).2⟩) hp.2 (p3 _ _ (p2 _ _ (p1 _ _ hbk))) (p3 _ _ (p2 _ _ (p1 _ _ hn)))
      refine ⟨y7, y8, y9, y10, m', ?_, p1.trans (p2.trans (p3.trans w2))⟩
      rw [← hc] at w1
      rw [List.map_cons, forL_nx (gd_one hn) rfl hbody]
      exact w1
noncomputable def wOut : AS :=
    (sSeq (sAsg (eCall f_law_parts (aCons (eVar 1) (aNil))) (gN 3))
    (sSeq (sPar2 4 5 (aCons (eMk "Book" f_Book_init (aCons (eOp dIx (eVar 3) (eC (.int 0))) (aCons (eOp dIx (eVar 3) (eC (.int 1))) (aNil)))) (aCons (eCall f_law_begins (aCons (eVar 1) (aCons (eOp dIx (eVar 3) (eC (.int 0))) (aNil)))) (aNil))))
    (sSeq (sAsg (eOp dAdd (eLstRg1 (eOp dAdd (eC (.int 1)) (eCall f_law_draw (aCons (eVar 1) (aCons (eC (.int 40)) (aNil)))))) (eCall mkLst (aCons (eCall f_law_any (aCons (eVar 1) (aCons (eCall mkLst (aCons (eC (.int 60)) (aCons (eC (.int 200)) (aCons (eC (.int 700)) (aCons (eC (.int 5000)) (aNil)))))) (aNil)))) (aNil)))) (gN 6))
    (sSeq (sAsg (eCall mkTup (aNil)) (gN 7))
    (sFor (iE (eVar 6)) (gN 8) wIn)))))
theorem w_out {h c : Nat} {m : Mem} (H : HandC h c m) (y2 y3 y4 y5 y6 y7 y8 y9 y10 : Option D) : ∃ z2 z3 z4 z5 z6 z7 z8 z9 z10 m', wOut (E11 h y2 y3 y4 y5 y6 y7 y8 y9 y10) m = .nx (E11 h z2 z3 z4 z5 z6 z7 z8 z9 z10) m' ∧ HandC h c m' := by
  obtain ⟨_, m1, v1, ⟨C, bs, rfl, hC, hl, hok⟩, f1, H1⟩ := df_parts (h := h) (c := c) (L := []) m ⟨H, fun q hq => by cases hq⟩
  have s1 : sAsg (eCall f_law_parts (aCons (eVar 1) (aNil))) (gN 3) (E11 h y2 y3 y4 y5 y6 y7 y8 y9 y10) m = .nx (E11 h y2 (some (.tup [I C, rtD bs])) y4 y5 y6 y7 y8 y9 y10) m1 := s_asg (e_call (a_c rfl rfl) v1)
  obtain ⟨m2, v2, kb, kp⟩ := w_book (m := m1 ++ [.ins "Book" []]) (n := m1.length) hC hl hok new_get
  have p2 : Pre m1 m2 := fun i cc e => kp i cc (Pre.add _ _ e) (by
    have := (List.getElem?_eq_some_iff.mp e).1
    simp; omega)
  have hlt := H1.lt
  have H2 : Hc h c [] m2 := ⟨H1.pre p2, fun q hq => by cases hq⟩
  have e2 : eMk "Book" f_Book_init (aCons (eOp dIx (eVar 3) (eC (.int 0))) (aCons (eOp dIx (eVar 3) (eC (.int 1))) (aNil))) (E11 h y2 (some (.tup [I C, rtD bs])) y4 y5 y6 y7 y8 y9 y10) m1 = .ok (.ref m1.length) m2 := e_mk (a_c (e_op rfl rfl (v_ixT rfl)) (a_c (e_op rfl rfl (v_ixT rfl)) rfl)) v2
  obtain ⟨_, m3, v3, ⟨begins, rfl, hb⟩, f3, H3⟩ := df_begins (h := h) (c := c) (L := []) (C := C) (by omega) m2 H2
  have s2 : sPar2 4 5 (aCons (eMk "Book" f_Book_init (aCons (eOp dIx (eVar 3) (eC (.int 0))) (aCons (eOp dIx (eVar 3) (eC (.int 1))) (aNil)))) (aCons (eCall f_law_begins (aCons (eVar 1) (aCons (eOp dIx (eVar 3) (eC (.int 0))) (aNil)))) (aNil))) (E11 h y2 (some (.tup [I C, rtD bs])) y4 y5 y6 y7 y8 y9 y10) m1 = .nx (E11 h y2 (some (.tup [I C, rtD bs])) (some (.ref m1.length)) (some (smD begins)) y6 y7 y8 y9 y10) m3 :=
    s_par2 (a_c e2 (a_c (e_call (a_c rfl (a_c (e_op rfl rfl (v_ixT rfl)) rfl)) v3) rfl))
  have kb3 := f3 _ _ kb (by omega)
  obtain ⟨_, m4, v4, ⟨v, rfl, hv⟩, f4, H4⟩ := df_draw (h := h) (c := c) (L := []) (v := 40) (by omega) (by omega) m3 ⟨H3, fun q hq => by cases hq⟩
  have kb4 := f4 _ _ kb3 (by omega)
  let E (y6 y7 y8 y9 y10 : Option D) : Env' := E11 h y2 (some (.tup [I C, rtD bs])) (some (.ref m1.length)) (some (smD begins)) y6 y7 y8 y9 y10
  obtain ⟨m5, hm5⟩ : ∃ m5 : Mem, m5 = m4 ++ [.lst ((List.range (v + 1)).map I)] := ⟨_, rfl⟩
  have e5 : eLstRg1 (eOp dAdd (eC (.int 1)) (eCall f_law_draw (aCons (eVar 1) (aCons (eC (.int 40)) (aNil))))) (E y6 y7 y8 y9 y10) m3 = .ok (.ref m4.length) m5 := by
    have q1 : eOp dAdd (eC (.int 1)) (eCall f_law_draw (aCons (eVar 1) (aCons (eC (.int 40)) (aNil)))) (E y6 y7 y8 y9 y10) m3 = .ok (.int (1 + (v : Int))) m4 := e_op rfl (e_call (a_c rfl (a_c rfl rfl)) v4) rfl
    have q2 : (1 + (v : Int)) = ((v + 1 : Nat) : Int) := by omega
    rw [q2] at q1
    unfold eLstRg1
    rw [q1, v_bind]
    dsimp only
    rw [if_pos (RgOk.of_le (by omega) (by omega) (by omega) (by omega)), Int.toNat_natCast, hm5]
    rfl
  have k5 : m5[m4.length]? = some (.lst ((List.range (v + 1)).map I)) := by rw [hm5]; exact new_get
  have p5 : Pre m4 m5 := by rw [hm5]; exact .add
  have hlt4 := H4.lt
  have H5 : Hc h c [(m4.length, .lst ((List.range (v + 1)).map I)), (m1.length, .ins "Book" (bookF C bs))] m5 := ⟨H4.pre p5, fun q hq => by
    simp only [List.mem_cons, List.not_mem_nil, or_false] at hq
    rcases hq with rfl | rfl
    · exact ⟨by show m4.length ≠ h; omega, k5⟩
    · exact ⟨by show m1.length ≠ h; omega, p5 _ _ kb4⟩⟩
  obtain ⟨n5, m6, v6, p6, k6, l6⟩ := ev_lst (e := E y6 y7 y8 y9 y10) (aa := aCons (eC (.int 60)) (aCons (eC (.int 200)) (aCons (eC (.int 700)) (aCons (eC (.int 5000)) (aNil))))) (xs := [60, 200, 700, 5000].map I) (ea_c ev_cint (ea_c ev_cint (ea_c ev_cint (ea_c ev_cint ea_nil)))) (by exact Nat.le_of_ble_eq_true rfl) m5
  have hlt5 := H5.1.lt
  obtain ⟨_, m7, v7, hw, f7, H7⟩ := df_any (H5.pre p6) k6 (by omega) (by simp) (by simp)
  obtain ⟨q, hq, rfl⟩ := List.mem_map.mp hw
  have hq2 : 60 ≤ q ∧ q ≤ 5000 := by
    simp only [List.mem_cons, List.not_mem_nil, or_false] at hq
    omega
  have k7 := f7 _ _ (p6 _ _ k5) (by omega)
  have kb7 := f7 _ _ (p6 _ _ (p5 _ _ kb4)) (by omega)
  have e7 : eCall mkLst (aCons (eCall f_law_any (aCons (eVar 1) (aCons (eCall mkLst (aCons (eC (.int 60)) (aCons (eC (.int 200)) (aCons (eC (.int 700)) (aCons (eC (.int 5000)) (aNil)))))) (aNil)))) (aNil)) (E y6 y7 y8 y9 y10) m5 = .ok (.ref m7.length) (m7 ++ [.lst [I q]]) := e_lst (a_c (e_call (a_c rfl (a_c v6 rfl)) v7) rfl)
  have h8 := w_catL (Pre.add (x := [Cell.lst [I q]]) _ _ k7) new_get (by simp; show _ ≤ 16777216; omega)
  have em : (List.range (v + 1)).map I ++ [I q] = (List.range (v + 1) ++ [q]).map I := by simp
  rw [em] at h8
  obtain ⟨m8, hm8⟩ : ∃ m8 : Mem, m8 = m7 ++ [Cell.lst [I q]] ++ [Cell.lst ((List.range (v + 1) ++ [q]).map I)] := ⟨_, rfl⟩
  rw [← hm8] at h8
  have k8 : m8[(m7 ++ [Cell.lst [I q]]).length]? = some (.lst ((List.range (v + 1) ++ [q]).map I)) := by rw [hm8]; exact new_get
  have p8 : Pre m7 m8 := by rw [hm8]; exact Pre.add.trans .add
  generalize (m7 ++ [Cell.lst [I q]]).length = n8 at h8 k8
  have s3 : sAsg (eOp dAdd (eLstRg1 (eOp dAdd (eC (.int 1)) (eCall f_law_draw (aCons (eVar 1) (aCons (eC (.int 40)) (aNil)))))) (eCall mkLst (aCons (eCall f_law_any (aCons (eVar 1) (aCons (eCall mkLst (aCons (eC (.int 60)) (aCons (eC (.int 200)) (aCons (eC (.int 700)) (aCons (eC (.int 5000)) (aNil)))))) (aNil)))) (aNil)))) (gN 6) (E y6 y7 y8 y9 y10) m3 = .nx (E (some (.ref n8)) y7 y8 y9 y10) m8 := s_asg (e_op e5 e7 h8)
  obtain ⟨z7, z8, z9, z10, m9, w1, w2⟩ := w_inner (h := h) (bk := m1.length) (n := n8) (y2 := y2) (y6 := some (.ref n8)) (lst := (List.range (v + 1) ++ [q]).map I) hC hl hok hb (List.range (v + 1) ++ [q]) 0 y8 y9 y10 m8 (fun r hr => by
    rcases List.mem_append.mp hr with hr | hr
    · rw [List.mem_range] at hr; omega
    · rw [List.mem_singleton] at hr; omega) (by
    rw [List.pairwise_append]
    refine ⟨(List.pairwise_lt_range).imp fun h => Nat.le_of_lt h, List.pairwise_singleton _ _, fun a ha b hb => ?_⟩
    rw [List.mem_range] at ha
    rw [List.mem_singleton] at hb
    omega) (p8 _ _ kb7) k8
  refine ⟨y2, some (.tup [I C, rtD bs]), some (.ref m1.length), some (smD begins), some (.ref n8), z7, z8, z9, z10, m9, s_seq s1 (s_seq s2 (s_seq s3 (s_seq (e1 := E (some (.ref n8)) (some (smD [])) y8 y9 y10) (m1 := m8) (s_asg (e_tup rfl)) ?_))), (H7.pre p8).pre w2⟩
  rw [w_for, w_iE]
  show ((Ab.R.ok (D.ref n8) m8).bind itD).o _ _ = _
  rw [v_bind, v_itL k8, v_o]
  exact w1
/-- the law holds -/
theorem pure_law (ns : List Int) (hl : ns.length ≤ 63) : ∃ m, f_law [.ref 0] [.rol (ns.map D.int)] = .ok (.bl true) m := by
  obtain ⟨h, m1, e1, H⟩ := w_handN ns hl
  obtain ⟨c, H1⟩ := H.ex
  have s1 : sAsg (eCall f_law_hand (aCons (eVar 0) (aNil))) (gN 1) [some (.ref 0), none, none, none, none, none, none, none, none, none, none] [.rol (ns.map D.int)] = .nx (E11 h none none none none none none none none none) m1 := s_asg (e_call (a_c rfl rfl) e1)
  have hf : Nx (sFor (iA rng1 (aCons (eC (.int 4)) (aNil))) (gN 2) wOut (E11 h none none none none none none none none none) m1) fun e' m' => True := by
    rw [w_for, w_iA, a_c rfl rfl, v_bind, show rng1 [.int 4] m1 = _ from v_rng (j := 4) (by omega), v_o]
    refine nx_mono (forL_go (fun rest e m => (∃ z2 z3 z4 z5 z6 z7 z8 z9 z10, e = E11 h z2 z3 z4 z5 z6 z7 z8 z9 z10) ∧ HandC h c m) (fun d r e m hI => ?_) (fun e m hI => gd_nil) _ _ _ ⟨⟨_, _, _, _, _, _, _, _, _, rfl⟩, H1⟩) fun _ _ _ => trivial
    obtain ⟨⟨z2, z3, z4, z5, z6, z7, z8, z9, z10, rfl⟩, H2⟩ := hI
    obtain ⟨a2, a3, a4, a5, a6, a7, a8, a9, a10, m', w1, w2⟩ := w_out H2 (some d) z3 z4 z5 z6 z7 z8 z9 z10
    refine ⟨gd_nil, E11 h (some d) z3 z4 z5 z6 z7 z8 z9 z10, rfl, ?_⟩
    rw [w1]
    exact ⟨⟨_, _, _, _, _, _, _, _, _, rfl⟩, w2⟩
  unfold f_law
  cases hq : sFor (iA rng1 (aCons (eC (.int 4)) (aNil))) (gN 2) wOut (E11 h none none none none none none none none none) m1 with
  | nx e' m' => exact ⟨m', af_rt (E := [some (.ref 0), none, none, none, none, none, none, none, none, none, none]) rfl (s_seq s1 (s_seq (s := sFor (iA rng1 (aCons (eC (.int 4)) (aNil))) (gN 2) wOut) hq (s_ret rfl)))⟩
  | _ => rw [hq] at hf; exact hf.elim
end Cl
open PySem PySem.W PyProof.Rows in
set_option maxRecDepth 100000 in
set_option maxHeartbeats 0 in
theorem PySem.Challenge.cw_bigcorners_k34_whole_runs_by_the_text_al_holds : PySem.Challenge.rw_bigcorners_k34_whole_runs_by_the_text_al.Holds := by
  w_on; o_law; k_head; (case hw => w_witness2)
  k_fill
  refine Ab.walkA (k := 42) (x := "script") (l := PySem.Challenge.rw_bigcorners_k34_whole_runs_by_the_text_al) rfl rfl ⟨rfl, by decide, by decide⟩ (fun w h Y => PySem.W.kIn_of Y) ?F
  case F =>
    intro w mg fa h KX G hmg
    refine' Cl.all_mk KX G hmg ?d_law_draw ?d_law_any ?d_law_begins ?d_law_hand ?d_law_is ?d_law_size ?d_law_alone ?d_law_sum ?d_law_test ?d_law_statement ?d_law_body ?d_law_parts ?d_law_value ?d_law_test_holds ?d_law_run ?d_Runner_contents ?d_Runner_go_along ?d_Runner_close_routine ?d_Runner_set_cell ?d_Runner_task ?d_Runner_total_of ?d_Runner_test_holds ?d_word_of ?d_Runner_word ?d_Runner_step ?d_is_whole ?d_is_between ?d_Runner_go ?d_Runner_said ?d_are_whole ?d_is_row ?d_Plan_add_place ?d_Plan_lay_while ?d_Plan_lay_if ?d_Plan_lay ?d_ran ?d_is_sum ?d_is_test ?d_is_statement ?d_is_body ?d_places_in ?d_wrong_part ?d_law ?c_Book ?c_Plan ?c_Runner ?n_cells ?n_routines ?n_coming ?n_tasks ?n_ways ?n_book ?n_gone ?n_holding ?n_marks ?n_past ?n_plans ?n_spoken ?n_stands ?e_BadBook ?en_BadBook ?e_NoContents ?e_NoNumber ?e_NotRunning ?b_abs ?b_all ?b_bool ?b_enumerate ?b_int ?b_isinstance ?b_len ?b_list ?b_max ?b_min ?b_range ?b_sorted ?b_str ?b_sum ?b_tuple ?b_zip ?k_MOST_CELLS ?k_MOST_ROUTINES ?k_MOST_DEEP ?k_MOST_ROUTINE_PLACES ?k_MOST_MULTIPLE ?k_MOST_STEPS ?k_MOST_ROUTINES_BEGUN Cl.pure_law
    (case d_law_draw => refine' Ab.def_in ?a ?l ?c ?k; (case a => k_is); (case l => k_is); (case c => k_is); (case k => k_is))
    (case d_law_any => refine' Ab.def_in ?a ?l ?c ?k; (case a => k_is); (case l => k_is); (case c => k_is); (case k => k_is))
    (case d_law_begins => refine' Ab.def_in ?a ?l ?c ?k; (case a => k_is); (case l => k_is); (case c => k_is); (case k => k_is))
    (case d_law_hand => refine' Ab.def_in ?a ?l ?c ?k; (case a => k_is); (case l => k_is); (case c => k_is); (case k => k_is))
    (case d_law_is => refine' Ab.def_in ?a ?l ?c ?k; (case a => k_is); (case l => k_is); (case c => k_is); (case k => k_is))
    (case d_law_size => refine' Ab.def_in ?a ?l ?c ?k; (case a => k_is); (case l => k_is); (case c => k_is); (case k => k_is))
    (case d_law_alone => refine' Ab.def_in ?a ?l ?c ?k; (case a => k_is); (case l => k_is); (case c => k_is); (case k => k_is))
    (case d_law_sum => refine' Ab.def_in ?a ?l ?c ?k; (case a => k_is); (case l => k_is); (case c => k_is); (case k => k_is))
    (case d_law_test => refine' Ab.def_in ?a ?l ?c ?k; (case a => k_is); (case l => k_is); (case c => k_is); (case k => k_is))
    (case d_law_statement => refine' Ab.def_in ?a ?l ?c ?k; (case a => k_is); (case l => k_is); (case c => k_is); (case k => k_is))
    (case d_law_body => refine' Ab.def_in ?a ?l ?c ?k; (case a => k_is); (case l => k_is); (case c => k_is); (case k => k_is))
    (case d_law_parts => refine' Ab.def_in ?a ?l ?c ?k; (case a => k_is); (case l => k_is); (case c => k_is); (case k => k_is))
    (case d_law_value => refine' Ab.def_in ?a ?l ?c ?k; (case a => k_is); (case l => k_is); (case c => k_is); (case k => k_is))
    (case d_law_test_holds => refine' Ab.def_in ?a ?l ?c ?k; (case a => k_is); (case l => k_is); (case c => k_is); (case k => k_is))
    (case d_law_run => refine' Ab.def_in ?a ?l ?c ?k; (case a => k_is); (case l => k_is); (case c => k_is); (case k => k_is))
    (case d_Runner_contents => refine' Ab.met_in ?aC ?a1 ?i1 ?l ?c ?k; (case aC => k_is); (case a1 => k_is); (case i1 => k_is); (case l => k_is); (case c => k_is); (case k => k_is))
    (case d_Runner_go_along => refine' Ab.met_in ?aC ?a1 ?i1 ?l ?c ?k; (case aC => k_is); (case a1 => k_is); (case i1 => k_is); (case l => k_is); (case c => k_is); (case k => k_is))
    (case d_Runner_close_routine => refine' Ab.met_in ?aC ?a1 ?i1 ?l ?c ?k; (case aC => k_is); (case a1 => k_is); (case i1 => k_is); (case l => k_is); (case c => k_is); (case k => k_is))
    (case d_Runner_set_cell => refine' Ab.met_in ?aC ?a1 ?i1 ?l ?c ?k; (case aC => k_is); (case a1 => k_is); (case i1 => k_is); (case l => k_is); (case c => k_is); (case k => k_is))
    (case d_Runner_task => refine' Ab.met_in ?aC ?a1 ?i1 ?l ?c ?k; (case aC => k_is); (case a1 => k_is); (case i1 => k_is); (case l => k_is); (case c => k_is); (case k => k_is))
    (case d_Runner_total_of => refine' Ab.met_in ?aC ?a1 ?i1 ?l ?c ?k; (case aC => k_is); (case a1 => k_is); (case i1 => k_is); (case l => k_is); (case c => k_is); (case k => k_is))
    (case d_Runner_test_holds => refine' Ab.met_in ?aC ?a1 ?i1 ?l ?c ?k; (case aC => k_is); (case a1 => k_is); (case i1 => k_is); (case l => k_is); (case c => k_is); (case k => k_is))
    (case d_word_of => refine' Ab.def_in ?a ?l ?c ?k; (case a => k_is); (case l => k_is); (case c => k_is); (case k => k_is))
    (case d_Runner_word => refine' Ab.met_in ?aC ?a1 ?i1 ?l ?c ?k; (case aC => k_is); (case a1 => k_is); (case i1 => k_is); (case l => k_is); (case c => k_is); (case k => k_is))
    (case d_Runner_step => refine' Ab.met_in ?aC ?a1 ?i1 ?l ?c ?k; (case aC => k_is); (case a1 => k_is); (case i1 => k_is); (case l => k_is); (case c => k_is); (case k => k_is))
    (case d_is_whole => refine' Ab.def_in ?a ?l ?c ?k; (case a => k_is); (case l => k_is); (case c => k_is); (case k => k_is))
    (case d_is_between => refine' Ab.def_in ?a ?l ?c ?k; (case a => k_is); (case l => k_is); (case c => k_is); (case k => k_is))
    (case d_Runner_go => refine' Ab.met_in ?aC ?a1 ?i1 ?l ?c ?k; (case aC => k_is); (case a1 => k_is); (case i1 => k_is); (case l => k_is); (case c => k_is); (case k => k_is))
    (case d_Runner_said => refine' Ab.met_in ?aC ?a1 ?i1 ?l ?c ?k; (case aC => k_is); (case a1 => k_is); (case i1 => k_is); (case l => k_is); (case c => k_is); (case k => k_is))
    (case d_are_whole => refine' Ab.def_in ?a ?l ?c ?k; (case a => k_is); (case l => k_is); (case c => k_is); (case k => k_is))
    (case d_is_row => refine' Ab.def_in ?a ?l ?c ?k; (case a => k_is); (case l => k_is); (case c => k_is); (case k => k_is))
    (case d_Plan_add_place => refine' Ab.met_in ?aC ?a1 ?i1 ?l ?c ?k; (case aC => k_is); (case a1 => k_is); (case i1 => k_is); (case l => k_is); (case c => k_is); (case k => k_is))
    (case d_Plan_lay_while => refine' Ab.met_in ?aC ?a1 ?i1 ?l ?c ?k; (case aC => k_is); (case a1 => k_is); (case i1 => k_is); (case l => k_is); (case c => k_is); (case k => k_is))
    (case d_Plan_lay_if => refine' Ab.met_in ?aC ?a1 ?i1 ?l ?c ?k; (case aC => k_is); (case a1 => k_is); (case i1 => k_is); (case l => k_is); (case c => k_is); (case k => k_is))
    (case d_Plan_lay => refine' Ab.met_in ?aC ?a1 ?i1 ?l ?c ?k; (case aC => k_is); (case a1 => k_is); (case i1 => k_is); (case l => k_is); (case c => k_is); (case k => k_is))
    (case d_ran => refine' Ab.def_in ?a ?l ?c ?k; (case a => k_is); (case l => k_is); (case c => k_is); (case k => k_is))
    (case d_is_sum => refine' Ab.def_in ?a ?l ?c ?k; (case a => k_is); (case l => k_is); (case c => k_is); (case k => k_is))
    (case d_is_test => refine' Ab.def_in ?a ?l ?c ?k; (case a => k_is); (case l => k_is); (case c => k_is); (case k => k_is))
    (case d_is_statement => refine' Ab.def_in ?a ?l ?c ?k; (case a => k_is); (case l => k_is); (case c => k_is); (case k => k_is))
    (case d_is_body => refine' Ab.def_in ?a ?l ?c ?k; (case a => k_is); (case l => k_is); (case c => k_is); (case k => k_is))
    (case d_places_in => refine' Ab.def_in ?a ?l ?c ?k; (case a => k_is); (case l => k_is); (case c => k_is); (case k => k_is))
    (case d_wrong_part => refine' Ab.def_in ?a ?l ?c ?k; (case a => k_is); (case l => k_is); (case c => k_is); (case k => k_is))
    (case d_law => refine' Ab.def_in ?a ?l ?c ?k; (case a => k_is); (case l => k_is); (case c => k_is); (case k => k_is))
    (case c_Book => refine' Ab.cls_in ?aC ?pg ?hd ?po ?sa ?mk ?kc ?a1 ?i1 ?l ?c ?k; (case aC => k_is); (case pg => k_is); (case hd => k_is); (case po => k_is); (case sa => k_is); (case mk => k_is); (case kc => k_is); (case a1 => k_is); (case i1 => k_is); (case l => k_is); (case c => k_is); (case k => k_is))
    (case c_Plan => refine' Ab.cls_in ?aC ?pg ?hd ?po ?sa ?mk ?kc ?a1 ?i1 ?l ?c ?k; (case aC => k_is); (case pg => k_is); (case hd => k_is); (case po => k_is); (case sa => k_is); (case mk => k_is); (case kc => k_is); (case a1 => k_is); (case i1 => k_is); (case l => k_is); (case c => k_is); (case k => k_is))
    (case c_Runner => refine' Ab.cls_in ?aC ?pg ?hd ?po ?sa ?mk ?kc ?a1 ?i1 ?l ?c ?k; (case aC => k_is); (case pg => k_is); (case hd => k_is); (case po => k_is); (case sa => k_is); (case mk => k_is); (case kc => k_is); (case a1 => k_is); (case i1 => k_is); (case l => k_is); (case c => k_is); (case k => k_is))
    (case n_cells => refine' Ab.no_in ?a ?f; (case a => k_is); (case f => k_is))
    (case n_routines => refine' Ab.no_in ?a ?f; (case a => k_is); (case f => k_is))
    (case n_coming => refine' Ab.no_in ?a ?f; (case a => k_is); (case f => k_is))
    (case n_tasks => refine' Ab.no_in ?a ?f; (case a => k_is); (case f => k_is))
    (case n_ways => refine' Ab.no_in ?a ?f; (case a => k_is); (case f => k_is))
    (case n_book => refine' Ab.no_in ?a ?f; (case a => k_is); (case f => k_is))
    (case n_gone => refine' Ab.no_in ?a ?f; (case a => k_is); (case f => k_is))
    (case n_holding => refine' Ab.no_in ?a ?f; (case a => k_is); (case f => k_is))
    (case n_marks => refine' Ab.no_in ?a ?f; (case a => k_is); (case f => k_is))
    (case n_past => refine' Ab.no_in ?a ?f; (case a => k_is); (case f => k_is))
    (case n_plans => refine' Ab.no_in ?a ?f; (case a => k_is); (case f => k_is))
    (case n_spoken => refine' Ab.no_in ?a ?f; (case a => k_is); (case f => k_is))
    (case n_stands => refine' Ab.no_in ?a ?f; (case a => k_is); (case f => k_is))
    (case e_BadBook => refine' Ab.err_in ?aC ?xL ?sa ?eC ?tC ?kC ?ga ?gg ?hC ?gc ?gs ?gt ?gm ?a1 ?i1 ?l ?c ?k ?bm; (case aC => k_is); (case xL => k_is); (case sa => k_is); (case eC => k_is); (case tC => k_is); (case kC => k_is); (case ga => k_is); (case gg => k_is); (case hC => k_is); (case gc => k_is); (case gs => k_is); (case gt => k_is); (case gm => k_is); (case a1 => k_is); (case i1 => k_is); (case l => k_is); (case c => k_is); (case k => k_is); (case bm => decide +kernel))
    (case en_BadBook => refine' Ab.no_in ?a ?f; (case a => k_is); (case f => k_is))
    (case e_NoContents => refine' Ab.err_in ?aC ?xL ?sa ?eC ?tC ?kC ?ga ?gg ?hC ?gc ?gs ?gt ?gm ?a1 ?i1 ?l ?c ?k ?bm; (case aC => k_is); (case xL => k_is); (case sa => k_is); (case eC => k_is); (case tC => k_is); (case kC => k_is); (case ga => k_is); (case gg => k_is); (case hC => k_is); (case gc => k_is); (case gs => k_is); (case gt => k_is); (case gm => k_is); (case a1 => k_is); (case i1 => k_is); (case l => k_is); (case c => k_is); (case k => k_is); (case bm => decide +kernel))
    (case e_NoNumber => refine' Ab.err_in ?aC ?xL ?sa ?eC ?tC ?kC ?ga ?gg ?hC ?gc ?gs ?gt ?gm ?a1 ?i1 ?l ?c ?k ?bm; (case aC => k_is); (case xL => k_is); (case sa => k_is); (case eC => k_is); (case tC => k_is); (case kC => k_is); (case ga => k_is); (case gg => k_is); (case hC => k_is); (case gc => k_is); (case gs => k_is); (case gt => k_is); (case gm => k_is); (case a1 => k_is); (case i1 => k_is); (case l => k_is); (case c => k_is); (case k => k_is); (case bm => decide +kernel))
    (case e_NotRunning => refine' Ab.err_in ?aC ?xL ?sa ?eC ?tC ?kC ?ga ?gg ?hC ?gc ?gs ?gt ?gm ?a1 ?i1 ?l ?c ?k ?bm; (case aC => k_is); (case xL => k_is); (case sa => k_is); (case eC => k_is); (case tC => k_is); (case kC => k_is); (case ga => k_is); (case gg => k_is); (case hC => k_is); (case gc => k_is); (case gs => k_is); (case gt => k_is); (case gm => k_is); (case a1 => k_is); (case i1 => k_is); (case l => k_is); (case c => k_is); (case k => k_is); (case bm => decide +kernel))
    (case b_abs => k_is)
    (case b_all => k_is)
    (case b_bool => k_is)
    (case b_enumerate => k_is)
    (case b_int => k_is)
    (case b_isinstance => k_is)
    (case b_len => k_is)
    (case b_list => k_is)
    (case b_max => k_is)
    (case b_min => k_is)
    (case b_range => k_is)
    (case b_sorted => k_is)
    (case b_str => k_is)
    (case b_sum => k_is)
    (case b_tuple => k_is)
    (case b_zip => k_is)
    (case k_MOST_CELLS => k_is)
    (case k_MOST_ROUTINES => k_is)
    (case k_MOST_DEEP => k_is)
    (case k_MOST_ROUTINE_PLACES => k_is)
    (case k_MOST_MULTIPLE => k_is)
    (case k_MOST_STEPS => k_is)
    (case k_MOST_ROUTINES_BEGUN => k_is)
