import PyProof.Rows.All
import Wide.All
import OpenK.AllK
import Wide.FinOn
import HandS.ForMost
import HandS.Exc
import HandS.TryOnly
import HandS.ExcOwn
import HandS.WordsExc
import HandS.CallSlots
import HandS.TupAny
import HandS.SortInts
import HandS.Conv
import HandS.IsInst
import HandS.Deep
import HandS.ExcInit
import HandS.Walk
import KE.GoesEnum
import KE.DataMinMax
import PyProof.SeqIndex
import HandS.ExcIs
import HandS.Style
import HandS.Ends
import HandS.Zip
import KE.KTupSum
import KE.BitLaws
import PySem.Challenge.RW_bigcorners_k02_whole_rims_words_and_asks
set_option Elab.async false
set_option linter.all false
set_option maxRecDepth 100000
/-! # rules of our own: a tuple is told with its object (no dict), so that its methods may be called -/
namespace L2
open PySem PySem.Spec PyProof.Rows
/-- a tuple whose object has no dict -/
def SqN (K : PySem.W.Frag) (H : Hp) (a : Addr) (xs : List V) : Prop := (∃ o, H a = some (.frz o (.tup xs)) ∧ o.dict = none) ∨
  ∃ (o : Obj) (its : Array Value) (n : Nat), K.lookup a = some o ∧ o.cls = .type "tuple" ∧ o.dict = none ∧ o.data = .seq its n ∧ its.size ≤ sizeLine ∧ Vals xs its.toList
theorem SqN.t {K : PySem.W.Frag} {H : Hp} {a : Addr} {xs : List V} (h : SqN K H a xs) : SqT K H a xs := by
  rcases h with ⟨ob, h, _⟩ | ⟨o, its, n, h1, h2, _, h3⟩
  · exact .inl (.inr ⟨ob, h⟩)
  · exact .inr ⟨o, its, n, h1, h2, h3⟩
theorem tupF_ok {P : Program} {w : World} {H : Hp} {hh : Heap} {a : Addr} {xs : List V} {its : List Value} {ob : Obj} (z : xs.length ≤ sizeLine) (r : Vals xs its) (e : hh.get? a = some ob) (hc : ob.cls = .type "tuple") (hd : ∃ n, ob.data = .seq its.toArray n) : ObjOk P w H hh a (.frz ob (.tup xs)) :=
  ⟨e, z, its, r, ob, e, hc, hd⟩
abbrev tupO (its : List Value) : Obj := { cls := .type "tuple", data := .seq its.toArray }
section
variable {X : Cx} {es : List Expr} {pos : Pos} {t : TA}
/-- a new tuple at p, its object told -/
def NewT (xs : List V) (Q : VK) (H : Hp) : Prop := ∀ p o, o.dict = none → H p = none → Q (.ref p) (upd H p (.frz o (.tup xs)))
theorem laidT {pins : List (Addr × Obj)} {σ : St} {H : Hp} {s : Shared} {xs : List V} {us : List Value} {Q : VK} (I : Inv X pins σ H s) (z : xs.length ≤ sizeLine) (r : Vals xs us) (q : NewT xs Q H) :
    EP X pins σ Q (.ref s.heap.objs.size) { s with heap := s.heap.push (tupO us) } :=
  ⟨.ref s.heap.objs.size, upd H s.heap.objs.size (.frz (tupO us) (.tup xs)), I.laid (t' := s.toks) (fun c y yy => Heap.get?_push_of_some _ yy) (Nat.le_refl _) (tupF_ok z r (Heap.get?_push_size _ rfl) rfl ⟨_, rfl⟩), rfl,
    q _ _ rfl (I.hok.fresh (Nat.le_refl _))⟩
def tTupF (t : TA) : TE := fun σ H Q => t σ H fun xs H1 => xs.length ≤ sizeLine ∧ NewT xs Q H1
theorem pe_tupF {x1} (h : PA X es t) : PE X (.Tuple es x1 pos) (tTupF t) := ⟨fun pins s σ H Q I hq =>
  wpAny_Tuple_spliced (thn (h.run pos pins s σ H _ I hq) fun us s1 ⟨xs, H1, I1, r, z, q⟩ => ⟨by rw [← r.length]; exact z, laidT I1 z r q⟩)⟩
theorem call_tupleF : CallR X (.type "tuple") (fun xs H Q => ∃ p ys, xs = [.ref p] ∧ ((SqL X.K H p ys ∧ NewT ys Q H) ∨ (SqT X.K H p ys ∧ Q (.ref p) H))) := by
  intro pins s σ H xs us Q I rr h
  obtain ⟨p, ys, rfl, h⟩ := h
  rcases h with ⟨hq, q⟩ | h
  · obtain ⟨u, rfl, rx⟩ := vals1 rr
    cases rx
    obtain ⟨its, r', pl, hz⟩ := I.list hq
    have hlen := r'.length
    refine call_tuple_list pl.isList (fun h1 kp => ?_) (by simp only [List.size_toArray] <;> omega)
    have I1 : Inv X pins σ H { s with heap := h1 } := I.kept (t' := s.toks) kp
    exact laidT I1 hz r' q
  · exact call_tuple_of pins s σ H _ us Q I rr ⟨p, ys, rfl, .inr h⟩
def rCatF (K : PySem.W.Frag) : R2 := fun x y H Q => ∃ a b xs ys, x = .ref a ∧ y = .ref b ∧ SqT K H a xs ∧ SqT K H b ys ∧ xs.length + ys.length ≤ sizeLine ∧
  (xs = [] → Q (.ref b) H) ∧ (xs ≠ [] → ys = [] → Q (.ref a) H) ∧ (xs ≠ [] → ys ≠ [] → NewT (xs ++ ys) Q H)
theorem op_catF : OpR X (binaryOp .Add) (rCatF X.K) := by
  intro pins s σ H x y v u Q I rx ry h
  obtain ⟨a, b, xs, ys, rfl, rfl, ha, hb, hz, q0, q1, q2⟩ := h
  cases rx
  cases ry
  obtain ⟨its, r1, p1, _⟩ := I.tuple ha
  obtain ⟨its2, r2, p2, _⟩ := I.tuple hb
  by_cases hx : xs = []
  · subst hx
    cases r1
    exact cat_tup0 p1 p2 ⟨.ref b, H, I, rfl, q0 rfl⟩
  · refine HT.cat_tup p1 p2 (fun z => hx (r1.nil_iff.mp z)) (fun z => ⟨.ref a, H, I, rfl, q1 hx (r2.nil_iff.mp z)⟩) (fun z => ?_) (by rw [← r1.length, ← r2.length]; exact hz)
    exact laidT I (by rw [List.length_append]; exact hz) (r1.append r2) (q2 hx fun w => z (r2.nil_iff.mpr w))
def rSlF (K : PySem.W.Frag) : V → Option Int → Option Int → Hp → VK → Prop := fun x lo hi H Q => ∃ a xs, x = .ref a ∧ SqT K H a xs ∧
  (HT.sIx xs.length 0 lo = 0 ∧ HT.sIx xs.length xs.length hi = xs.length → Q (.ref a) H) ∧ (¬ (HT.sIx xs.length 0 lo = 0 ∧ HT.sIx xs.length xs.length hi = xs.length) → NewT (cutV xs lo hi) Q H)
theorem sl_tupF : SlR X (rSlF X.K) := by
  intro pins s σ H x v vl vu lo hi sl Q I rx hs pl pu h
  obtain ⟨a, xs, rfl, hx, q1, q2⟩ := h
  cases rx
  obtain ⟨its, r, ht, hz⟩ := I.tuple hx
  have hlen : its.toArray.size = xs.length := by rw [List.size_toArray]; exact r.length.symm
  refine ⟨"tuple", _, PyProof.Rows.slot_tuple_getitem.lookup, ht.typeIs, ?_⟩
  by_cases hw : HT.sIx xs.length 0 lo = 0 ∧ HT.sIx xs.length xs.length hi = xs.length
  · exact getItem_tuple_whole ht hs pl pu (by rw [hlen]; exact hw) ⟨.ref a, H, I, rfl, q1 hw⟩
  · refine HT.getItem_tuple_cut ht hs pl pu (by rw [hlen]; exact hw) ?_ (by rw [hlen]; exact hz)
    rw [hlen]
    exact laidT I (Nat.le_trans (cutV_length xs lo hi) hz) ((r.drop (HT.sIx xs.length 0 lo)).take (HT.sIx xs.length xs.length hi - HT.sIx xs.length 0 lo)) (q2 hw)

/-! ### what is walked: a list or a tuple (b) -/
def SqB (K : PySem.W.Frag) (b : Bool) (H : Hp) (a : Addr) (xs : List V) : Prop := match b with
  | true => SqT K H a xs
  | false => SqL K H a xs
def HasB (b : Bool) (hh : Heap) (a : Addr) (its : Array Value) : Prop := match b with
  | true => hh.IsTuple a its
  | false => hh.IsList a its
def IterB (b : Bool) (hh : Heap) (it a : Addr) (i : Nat) : Prop := match b with
  | true => hh.IsTupleIter it a i
  | false => hh.IsListIter it a i
theorem IterB.at {b : Bool} {hh h2 : Heap} {it a : Addr} {i : Nat} (x : IterB b hh it a i) (k : ∀ o, hh.get? it = some o → h2.get? it = some o) : IterB b h2 it a i := by
  cases b with
  | true => exact Heap.IsTupleIter.at x k
  | false => exact Heap.IsListIter.at x k
theorem IterB.rec {b : Bool} {hh : Heap} {it a : Addr} {i : Nat} (x : IterB b hh it a i) : ∃ o vs, hh.get? it = some o ∧ o.data = .fields vs := by
  cases b with
  | true => obtain ⟨o, e, c, d⟩ := x; exact ⟨o, _, e, d⟩
  | false => obtain ⟨o, e, c, d⟩ := x; exact ⟨o, _, e, d⟩
theorem SqB.get {b : Bool} {pins : List (Addr × Obj)} {σ : St} {H : Hp} {s : Shared} {a : Addr} {xs : List V} (I : Inv X pins σ H s) (h : SqB X.K b H a xs) : ∃ its : List Value, Vals xs its ∧ HasB b s.heap a its.toArray ∧ xs.length ≤ sizeLine ∧ a < s.heap.objs.size := by
  cases b with
  | true => obtain ⟨its, r, p, z⟩ := I.tuple h; exact ⟨its, r, p, z, p.lt⟩
  | false => obtain ⟨its, r, p, z⟩ := I.list h; exact ⟨its, r, p.isList, z, p.lt⟩
theorem SqB.inj {b : Bool} {pins : List (Addr × Obj)} {σ : St} {H : Hp} {s : Shared} {a : Addr} {xs ys : List V} (I : Inv X pins σ H s) (h : SqB X.K b H a xs) (h2 : SqB X.K b H a ys) : xs = ys := by
  cases b with
  | true => exact I.tuple_inj h h2
  | false => exact I.list_inj h h2
theorem drawsB {prog : Program} {w : World} {A : Around} (b : Bool) (hh : A.handled = none) (it l : Addr) (hne : l ≠ it) (items : Array Value) :
    Draws prog w A it [it, l] items.size (fun i v => items[i]? = some v) (fun i h => IterB b h it l i ∧ HasB b h l items) := by
  cases b with
  | true => exact Draws.tuple hh it l hne items
  | false => exact Draws.list hh it l hne items
abbrev iterO (b : Bool) (l : Addr) : Obj := { cls := .type (if b then "tuple_iterator" else "list_iterator"), data := .fields #[.ref l, .int 0 0] }
theorem beginsB (b : Bool) (l : Addr) (items : Array Value) : Begins (.ref l) (iterO b l) (fun h => HasB b h l items) := by
  cases b with
  | true => exact begins_tuple l items
  | false => exact begins_list l items
theorem iterB_new {b : Bool} {hh : Heap} {it l : Addr} (e : hh.get? it = some (iterO b l)) : IterB b hh it l 0 := by
  cases b with
  | true => exact ⟨_, e, rfl, rfl⟩
  | false => exact ⟨_, e, rfl, rfl⟩
/-- enumerate: a new pair at each turn, its object told -/
def ItE (K : PySem.W.Frag) (b : Bool) (a : Addr) : It :=
  ⟨fun i H => ∃ (xs : List V) (x : V), SqB K b H a xs ∧ xs[i]? = some x, fun i H v H' => ∃ T o x, v = .ref T ∧ H T = none ∧ o.dict = none ∧ H' = upd H T (.frz o (.tup [.int (i : Nat), x])) ∧ ∀ xs, SqB K b H a xs → xs[i]? = some x, fun i H => ∃ xs : List V, SqB K b H a xs ∧ xs.length = i⟩
theorem turn_enumB {P : Program} {w : World} {K : PySem.W.Frag} {elts : List Expr} {kk : Nat} {tpos : Pos} (b : Bool) (a e it : Addr) (hai : a ≠ it) (hae : a ≠ e) :
    Turn P w K (.Tuple elts kk tpos) (ItE K b a) [e, it] e (fun i h => (∃ old, IsEnum h e it ((i : Nat) : Int) old) ∧ IterB b h it a i ∧ e ≠ it) where
  mem := by simp
  obj := fun i h st c hc => by
    obtain ⟨⟨old, he⟩, hit, _⟩ := st
    obtain ⟨o, vs, ho, hd⟩ := hit.rec
    have hc' : c = e ∨ c = it := by simpa using hc
    rcases hc' with z | z
    · rw [z]; exact ⟨_, he, fun v q => nomatch q⟩
    · rw [z]; exact ⟨o, ho, fun v q => by rw [hd] at q; cases q⟩
  keep := fun i h h' st k => let ⟨⟨old, he⟩, hi, hne⟩ := st; ⟨⟨old, k e (by simp) _ he⟩, hi.at fun o q => k it (by simp) o q, hne⟩
  item := by
    intro X hP hw hK hc i pins s σ H E I hf st hg
    subst hP hw hK
    obtain ⟨⟨old, he⟩, hit, hne⟩ := st
    obtain ⟨xs, x, hq, hx⟩ := hg
    obtain ⟨its, rv, p, hz, hal⟩ := hq.get I
    obtain ⟨u, hu, ru⟩ := rv.get hx
    have hel : e < s.heap.objs.size := Heap.lt_size he
    have hil : it < s.heap.objs.size := by obtain ⟨o, vs, q, _⟩ := hit.rec; exact Heap.lt_size q
    have hi : i < its.toArray.size := by
      have := (List.getElem?_eq_some_iff.mp hu).1
      simpa using this
    have hh : X.A.in1.handled = none := I.ok.hd hc
    refine wpAny_pyNext_enum_itemD (drawsB b hh it a hai its.toArray) he ⟨hit, p⟩ hi hne (by simp [hne, Ne.symm hae]) fun x' h1 tk hx' ho st' hT hsz hk => ?_
    have ex : x' = u := by
      have q1 : its.toArray[i]? = some u := by simpa using hu
      rw [q1] at hx'
      exact (Option.some.inj hx').symm
    subst ex
    refine ⟨_, rfl, wpAny_letOwnedTupleGo_enum (s := { s with heap := h1, toks := tk + 1 }) ho fun h2 he' sb => ?_⟩
    have hT2 : h2.get? s.heap.objs.size = some (tupO [.int i tk, x']) := (sb.2 _ (Nat.ne_of_gt hel)).trans hT
    have new : ObjOk X.prog X.w (upd H s.heap.objs.size (.frz (tupO [.int i tk, x']) (.tup [.int (i : Nat), x]))) h2 s.heap.objs.size (.frz (tupO [.int i tk, x']) (.tup [.int (i : Nat), x])) :=
      tupF_ok (by show 2 ≤ sizeLine; decide) (.cons ⟨_, rfl⟩ (.cons ru .nil)) hT2 rfl ⟨_, rfl⟩
    have I1 : Inv X pins σ (upd H s.heap.objs.size (.frz (tupO [.int i tk, x']) (.tup [.int (i : Nat), x]))) { s with heap := h2, toks := tk + 1 } :=
      I.turnedNew (ch := [e, it]) (fun c ob hb q => (sb.2 c (fun z => hb (by simp [z]))).trans (hk c ob (fun z => hb (by simp [z])) (fun z => hb (by simp [z])) q)) hf (Nat.le_refl _) new
    refine ⟨.ref s.heap.objs.size, _, I1, rfl, ⟨_, _, x, rfl, I.hok.fresh (Nat.le_refl _), rfl, rfl, fun ys hy => by rw [SqB.inj I hy hq]; exact hx⟩, ⟨⟨x', ?_⟩, st'.1.at fun o q => (sb.2 it (Ne.symm hne)).trans q, hne⟩, fun c hb => ?_⟩
    · have e1 : ((i + 1 : Nat) : Int) = (i : Int) + 1 := by omega
      rw [e1]; exact he'
    · have hb' : c < s.heap.objs.size := by
        have hc' : c = e ∨ c = it := by simpa using hb
        rcases hc' with z | z
        · rw [z]; exact hel
        · rw [z]; exact hil
      rw [upd_ne (Nat.ne_of_lt hb')]
      exact (hf c hb).1
  done := by
    intro X hP hw hK hc i pins s σ H E I hf st hg
    subst hP hw hK
    obtain ⟨⟨old, he⟩, hit, hne⟩ := st
    obtain ⟨xs, hq, hx⟩ := hg
    obtain ⟨its, rv, p, hz, hal⟩ := hq.get I
    obtain ⟨f0, f1, f2, f3, f4, f5⟩ := hf it (by simp)
    have hl : its.toArray.size = i := by rw [List.size_toArray, ← rv.length]; exact hx
    have hh : X.A.in1.handled = none := I.ok.hd hc
    refine wpAny_pyNext_enum_endD (drawsB b hh it a hai its.toArray) he ⟨by rw [hl]; exact hit, p⟩ fun h1 eb => ⟨rfl, I.turned (t' := s.toks) (fun c o hb q => eb c o hb q) f0 f1 f3 f4 f5⟩
  self := fun A i s Q E st h => let ⟨⟨_, he⟩, _⟩ := st; wpAny_pyIter_enum he h
end
end L2
namespace PySem
theorem meets_enumerate_new1 {v : Value} {o : Obj} {H : Heap → Prop} (B : Begins v o H) :
    Meets (Builtin.«enumerate.__new__» ⟨[.type "enumerate", v], []⟩) (fun _ R s => H s.heap ∧
      R (.ok (.ret (.ref (s.heap.push o).objs.size))) { s with heap := (s.heap.push o).push { cls := .type "enumerate", data := .fields #[.none, .bool false, .ref s.heap.objs.size, rawInt 0, .none, .none] } }) :=
  .of_wp fun prog w A R s hs => by
    obtain ⟨hp, g, d, tk, os⟩ := s
    obtain ⟨h1, hs⟩ := hs
    have hsub := sub_enumerate
    have q1 : ∀ {A' : Around} {E : Value → Shared → Prop} {Q : Value → Shared → Prop}, Q (.ref hp.objs.size) ⟨hp.push o, g, d, tk, os⟩ → wpAny (model prog w) A' (pyIter v) Q E ⟨hp, g, d, tk, os⟩ :=
      fun q => B.iter prog w _ _ ⟨hp, g, d, tk, os⟩ _ h1 q
    wp_walk using q1
    refine wpAny_stack_any fun st => wpAny_pure ?_
    split
    · rename_i c _ _ _ _ _
      cases (c == Value.type "enumerate")
      · wp_walk using q1
        exact ⟨_, rfl, hs⟩
      · wp_walk using q1
        exact ⟨_, rfl, hs⟩
    · wp_walk using q1
      exact ⟨_, rfl, hs⟩
theorem enum_begins1 {prog : Program} {w : World} {A : Around} {E : Value → Shared → Prop} {s : Shared} {v : Value} {o : Obj} {H : Heap → Prop} {Q : Value → Shared → Prop} (B : Begins v o H) (h1 : H s.heap)
    (h : ∀ h', IsEnum h' (s.heap.objs.size + 1) s.heap.objs.size 0 .none → h'.get? s.heap.objs.size = some o → h'.objs.size = s.heap.objs.size + 2 →
      (∀ b o, s.heap.get? b = some o → h'.get? b = some o) → Q (.ref (s.heap.objs.size + 1)) { s with heap := h' }) :
    wpAny (model prog w) A (call (.type "enumerate") [v]) Q E s := by
  refine callType_new F.called_enumerate (by decide) (F.typeCall_enumerate_1 _) (F.newCall_enumerate_1 _) (fun obj => F.args_object_init_2 obj _) F.entry_enumerate_new
    (meets_enumerate_new1 B) ⟨h1, ?_⟩
  have hz : (s.heap.push o).objs.size = s.heap.objs.size + 1 := Heap.size_push ..
  show _ ∧ _
  rw [hz]
  have he : IsEnum ((s.heap.push o).push { cls := .type "enumerate", data := .fields #[.none, .bool false, .ref s.heap.objs.size, rawInt 0, .none, .none] }) (s.heap.objs.size + 1) s.heap.objs.size 0 .none := by
    have := Heap.get?_push_size (s.heap.push o) (o := { cls := .type "enumerate", data := .fields #[.none, .bool false, .ref s.heap.objs.size, rawInt 0, .none, .none] }) rfl
    rw [hz] at this; exact this
  exact ⟨⟨_, he, rfl⟩, h _ he (Heap.get?_push_of_some _ (Heap.get?_push_size _ B.free)) (by rw [Heap.size_push, hz]) fun b o x => Heap.get?_push_of_some _ (Heap.get?_push_of_some _ x)⟩
end PySem

namespace L2
open PySem PySem.Spec PyProof.Rows
section
variable {X : Cx}
def iEnumB (K : PySem.W.Frag) (ta : TA) : TI := fun σ H R => ta σ H fun vs H1 => ∃ b a xs, vs = [.ref a] ∧ SqB K b H1 a xs ∧ R (ItE K b a) H1
theorem pi_enumB {e : Expr} {ta : TA} {p pos tpos : Pos} {elts : List Expr} {kk : Nat} (hg : Gl X "enumerate") (hm : X.mg "enumerate" = none) (ha : PA X [e] ta) (hs : starEach [e] X.env = [(false, eval e X.env)] := by rfl) :
    PI X (.Tuple elts kk tpos) (.Call (.Name "enumerate" p) [e] [] pos) (iEnumB X.K ta) := ⟨fun pins s σ H R I h => by
  refine Call_ (ld_blt I hg hm boot_enumerate (PyProof.Rows.callWith_type1 (thn (ha.run pos pins s σ H _ I h) fun us s1 ⟨vs, H1, I1, r1, q1⟩ => ?_) hs rfl))
  obtain ⟨b, a, xs, ex, hq, q⟩ := q1
  subst ex
  obtain ⟨u, rfl, ru⟩ := r1.one
  cases ru
  obtain ⟨its, rv, p', hz, hal⟩ := hq.get I1
  refine enum_begins1 (beginsB b a its.toArray) p' fun h1 he hit hsz hk => wpAny_pyIter_enum he ?_
  have I2 : Inv X pins σ H1 { s1 with heap := h1 } := I1.kept (t' := s1.toks) hk
  refine ⟨s1.heap.objs.size + 1, [s1.heap.objs.size + 1, s1.heap.objs.size], _, _, H1, rfl, I2, turn_enumB b a (s1.heap.objs.size + 1) s1.heap.objs.size (Nat.ne_of_lt hal) (Nat.ne_of_lt (Nat.lt_succ_of_lt hal)), ⟨⟨.none, he⟩, iterB_new hit, Nat.succ_ne_self _⟩, fun c hb => ?_, q⟩
  have hle : s1.heap.objs.size ≤ c := by
    have e' : c = s1.heap.objs.size + 1 ∨ c = s1.heap.objs.size := by simpa using hb
    rcases e' with z | z <;> rw [z] <;> first | exact Nat.le_refl _ | exact Nat.le_add_right _ _
  exact I1.fpOk hle (I1.hok.fresh hle)⟩
/-- zip of two, each a list or a tuple -/
def ItZ (K : PySem.W.Frag) (b1 b2 : Bool) (a1 a2 : Addr) : It :=
  ⟨fun i H => ∃ (xs ys : List V) (x y : V), SqB K b1 H a1 xs ∧ SqB K b2 H a2 ys ∧ xs[i]? = some x ∧ ys[i]? = some y,
    fun i H v H' => ∃ T o x y, v = .ref T ∧ H T = none ∧ o.dict = none ∧ H' = upd H T (.frz o (.tup [x, y])) ∧ (∀ xs, SqB K b1 H a1 xs → xs[i]? = some x) ∧ ∀ ys, SqB K b2 H a2 ys → ys[i]? = some y,
    fun i H => ∃ xs ys : List V, SqB K b1 H a1 xs ∧ SqB K b2 H a2 ys ∧ i ≤ xs.length ∧ i ≤ ys.length ∧ (i = xs.length ∨ i = ys.length)⟩
theorem turn_zipB {P : Program} {w : World} {K : PySem.W.Frag} {elts : List Expr} {kk : Nat} {tpos : Pos} (b1 b2 : Bool) {a1 a2 z TI TO i1 i2 : Addr} (D : ZipSep2 z TI TO i1 i2 [i1, a1] [i2, a2]) (n1 : a1 ≠ i1) (n2 : a2 ≠ i2) :
    Turn P w K (.Tuple elts kk tpos) (ItZ K b1 b2 a1 a2) [z, TI, TO, i1, i2] z (fun i h => IsZip h z TI TO .none ∧ IsTupOf2 h TI (.ref i1) (.ref i2) ∧ (∃ x y, IsTupOf2 h TO x y) ∧ IterB b1 h i1 a1 i ∧ IterB b2 h i2 a2 i) where
  mem := by simp
  obj := fun i h st c hc => by
    obtain ⟨hz, hTI, ⟨x, y, hTO⟩, h1, h2⟩ := st
    obtain ⟨o1, v1, e1, d1⟩ := h1.rec
    obtain ⟨o2, v2, e2, d2⟩ := h2.rec
    have e' : c = z ∨ c = TI ∨ c = TO ∨ c = i1 ∨ c = i2 := by simpa using hc
    rcases e' with q | q | q | q | q
    · rw [q]; exact ⟨_, hz, fun v q => nomatch q⟩
    · rw [q]; exact ⟨_, hTI, fun v q => nomatch q⟩
    · rw [q]; exact ⟨_, hTO, fun v q => nomatch q⟩
    · rw [q]; exact ⟨o1, e1, fun v q => by rw [d1] at q; cases q⟩
    · rw [q]; exact ⟨o2, e2, fun v q => by rw [d2] at q; cases q⟩
  keep := fun i h h' st k => by
    obtain ⟨hz, hTI, ⟨x, y, hTO⟩, h1, h2⟩ := st
    exact ⟨k z (by simp) _ hz, k TI (by simp) _ hTI, ⟨x, y, k TO (by simp) _ hTO⟩, h1.at fun o q => k i1 (by simp) o q, h2.at fun o q => k i2 (by simp) o q⟩
  item := by
    intro X hP hw hK hc i pins s σ H E I hf st hg
    subst hP hw hK
    obtain ⟨hz, hTI, ⟨x0, y0, hTO⟩, h1, h2⟩ := st
    obtain ⟨xs, ys, x, y, hqx, hqy, hx, hy⟩ := hg
    obtain ⟨its, rv, p, _, _⟩ := hqx.get I
    obtain ⟨its2, rv2, p2, _, _⟩ := hqy.get I
    obtain ⟨u, hu, ru⟩ := rv.get hx
    obtain ⟨u2, hu2, ru2⟩ := rv2.get hy
    have hzl : z < s.heap.objs.size := Heap.lt_size hz
    have hh : X.A.in1.handled = none := I.ok.hd hc
    have l1 : i < its.toArray.size := by simpa using (List.getElem?_eq_some_iff.mp hu).1
    have l2 : i < its2.toArray.size := by simpa using (List.getElem?_eq_some_iff.mp hu2).1
    refine wpAny_pyNext_zipD2_item D (drawsB b1 hh i1 a1 n1 its.toArray) (drawsB b2 hh i2 a2 n2 its2.toArray) hz hTI hTO ⟨h1, p⟩ ⟨h2, p2⟩ l1 l2 fun x1 x2 h' tk hx1 hx2 z' TO' s1' s2' hT hsz hk => ?_
    have ex1 : x1 = u := by
      have q1 : its.toArray[i]? = some u := by simpa using hu
      rw [q1] at hx1; exact (Option.some.inj hx1).symm
    have ex2 : x2 = u2 := by
      have q1 : its2.toArray[i]? = some u2 := by simpa using hu2
      rw [q1] at hx2; exact (Option.some.inj hx2).symm
    subst ex1 ex2
    refine ⟨_, rfl, wpAny_letOwnedTupleGo_zip (s := { s with heap := h', toks := tk }) z' fun h'' z'' sb => ?_⟩
    have hT2 : h''.get? s.heap.objs.size = some (tupO [x1, x2]) := (sb.2 _ (Nat.ne_of_gt hzl)).trans hT
    have new : ObjOk X.prog X.w (upd H s.heap.objs.size (.frz (tupO [x1, x2]) (.tup [x, y]))) h'' s.heap.objs.size (.frz (tupO [x1, x2]) (.tup [x, y])) :=
      tupF_ok (by show 2 ≤ sizeLine; decide) (.cons ru (.cons ru2 .nil)) hT2 rfl ⟨_, rfl⟩
    have I1 : Inv X pins σ (upd H s.heap.objs.size (.frz (tupO [x1, x2]) (.tup [x, y]))) { s with heap := h'', toks := tk } :=
      I.turnedNew (t' := tk) (ch := [z, TI, TO, i1, i2]) (fun c o hb q => (sb.2 c (fun q' => hb (by simp [q']))).trans (hk c o (fun q' => hb (by simp [q'])) (fun q' => hb (by simp [q'])) (fun q' => hb (by simp [q'])) (fun q' => hb (by simp [q'])) q)) hf (Nat.le_refl _) new
    refine ⟨.ref s.heap.objs.size, _, I1, rfl, ⟨_, _, x, y, rfl, I.hok.fresh (Nat.le_refl _), rfl, rfl, fun l hl => by rw [SqB.inj I hl hqx]; exact hx, fun l hl => by rw [SqB.inj I hl hqy]; exact hy⟩, ⟨z'', ?_, ⟨x1, x2, ?_⟩, ?_, ?_⟩, fun c hcm => ?_⟩
    · exact (sb.2 _ D.TIz).trans (hk _ _ D.TIz D.TITO D.TIi1 D.TIi2 hTI)
    · exact (sb.2 _ D.TOz).trans TO'
    · exact s1'.1.at fun o q => (sb.2 _ (fun zz => D.zf1 (zz ▸ D.mem1))).trans q
    · exact s2'.1.at fun o q => (sb.2 _ (fun zz => D.zf2 (zz ▸ D.mem2))).trans q
    · have hlt : c < s.heap.objs.size := by
        have e' : c = z ∨ c = TI ∨ c = TO ∨ c = i1 ∨ c = i2 := by simpa using hcm
        rcases e' with q | q | q | q | q
        · rw [q]; exact hzl
        · rw [q]; exact Heap.lt_size hTI
        · rw [q]; exact Heap.lt_size hTO
        · rw [q]; obtain ⟨_, _, e1, _⟩ := h1.rec; exact Heap.lt_size e1
        · rw [q]; obtain ⟨_, _, e2, _⟩ := h2.rec; exact Heap.lt_size e2
      rw [upd_ne (Nat.ne_of_lt hlt)]
      exact (hf c hcm).1
  done := by
    intro X hP hw hK hc i pins s σ H E I hf st hg
    subst hP hw hK
    obtain ⟨hz, hTI, ⟨x0, y0, hTO⟩, h1, h2⟩ := st
    obtain ⟨xs, ys, hqx, hqy, l1, l2, hend⟩ := hg
    obtain ⟨its, rv, p, _, _⟩ := hqx.get I
    obtain ⟨its2, rv2, p2, _, _⟩ := hqy.get I
    have e1 := rv.length
    have e2 := rv2.length
    have hh : X.A.in1.handled = none := I.ok.hd hc
    exact wpAny_pyNext_zipD2_end D (drawsB b1 hh i1 a1 n1 its.toArray) (drawsB b2 hh i2 a2 n2 its2.toArray) hz hTI hTO ⟨h1, p⟩ ⟨h2, p2⟩ (by rw [List.size_toArray]; omega) (by rw [List.size_toArray]; omega) (by rw [List.size_toArray, List.size_toArray]; omega) fun h' tk hk => ⟨rfl, I.turnedL (t' := tk) (ch := [z, TI, TO, i1, i2]) (fun c o hb q =>
      hk c o (fun q' => hb (by simp [q'])) (fun q' => hb (by simp [q'])) (fun q' => hb (by simp [q'])) (fun q' => hb (by simp [q'])) q) hf⟩
  self := fun A i s Q E st h => wpAny_pyIter_zip st.1 h
def iZipB (K : PySem.W.Frag) (ta : TA) : TI := fun σ H R => ta σ H fun vs H1 => ∃ b1 b2 a1 a2 xs ys, vs = [.ref a1, .ref a2] ∧ SqB K b1 H1 a1 xs ∧ SqB K b2 H1 a2 ys ∧ R (ItZ K b1 b2 a1 a2) H1
theorem pi_zipB {e e2 : Expr} {ta : TA} {p pos tpos : Pos} {elts : List Expr} {kk : Nat} (hg : Gl X "zip") (hm : X.mg "zip" = none) (ha : PA X [e, e2] ta)
    (hs : starEach [e, e2] X.env = (false, eval e X.env) :: starEach [e2] X.env := by rfl) (hpl : (backTo pos (starEach [e2] X.env)).any (·.1) = false := by rfl) :
    PI X (.Tuple elts kk tpos) (.Call (.Name "zip" p) [e, e2] [] pos) (iZipB X.K ta) := ⟨fun pins s σ H R I h => by
  refine Call_ (ld_blt I hg hm PyProof.Rows.boot_zip (PyProof.Rows.callWith_type1 (thn (ha.run pos pins s σ H _ I h) fun us s1 ⟨vs, H1, I1, r1, q1⟩ => ?_) hs hpl))
  obtain ⟨b1, b2, a1, a2, xs, ys, ex, hqx, hqy, q⟩ := q1
  subst ex
  obtain ⟨u1, u2, rfl, ru1, ru2⟩ := r1.two
  cases ru1
  cases ru2
  obtain ⟨its, rv, p1, _, la⟩ := hqx.get I1
  obtain ⟨its2, rv2, p2, _, lb⟩ := hqy.get I1
  refine zip_begins2 (beginsB b1 a1 its.toArray) (beginsB b2 a2 its2.toArray) p1 p2 fun h' hz hTI hTO h1 h2 hsz hk => wpAny_pyIter_zip hz ?_
  have I2 : Inv X pins σ H1 { s1 with heap := h' } := I1.kept (t' := s1.toks) hk
  have D := zip_sep2 (N := s1.heap.objs.size) (fp1 := [a1]) (fp2 := [a2]) (by simpa using la) (by simpa using lb)
  refine ⟨s1.heap.objs.size + 4, [s1.heap.objs.size + 4, s1.heap.objs.size + 2, s1.heap.objs.size + 3, s1.heap.objs.size, s1.heap.objs.size + 1], _, _, H1, rfl, I2, turn_zipB b1 b2 D (Nat.ne_of_lt la) (Nat.ne_of_lt (Nat.lt_succ_of_lt lb)), ⟨hz, hTI, ⟨_, _, hTO⟩, iterB_new h1, iterB_new h2⟩, fun c hcm => ?_, q⟩
  have hle : s1.heap.objs.size ≤ c := by
    have e' : c = s1.heap.objs.size + 4 ∨ c = s1.heap.objs.size + 2 ∨ c = s1.heap.objs.size + 3 ∨ c = s1.heap.objs.size ∨ c = s1.heap.objs.size + 1 := by simpa using hcm
    rcases e' with z | z | z | z | z <;> rw [z] <;> first | exact Nat.le_refl _ | exact Nat.le_add_right _ _
  exact I1.fpOk hle (I1.hok.fresh hle)⟩

/-! ### methods of tuples -/
def tTM (K : PySem.W.Frag) (r : V → List V → Hp → VK → Prop) (to : TE) (t : TA) : TE := fun σ H Q => to σ H fun x H1 => (∃ a xs, x = .ref a ∧ SqN K H1 a xs) ∧ t σ H1 fun xs H2 => r x xs H2 Q
theorem pe_tm {o e : Expr} {es : List Expr} {to : TE} {t : TA} {name : Str} {apos cpos : Pos} {id : String} {r : V → List V → Hp → VK → Prop} (pa : PlainAttrs "tuple") (slot : Slot "tuple" name id) (hty : typeOf (.builtin id) = pure (.type "method_descriptor")) (hm : MtR X id r) (ho : PE X o to) (ha : PA X (e :: es) t)
    (hbase : attributeBase o name X.env (eval o X.env) = eval o X.env := by rfl)
    (hfew : ((backTo cpos (starEach (e :: es) X.env)).all (fun x => !x.1) && (backToKw cpos (keywordEach [] X.env)).all (fun x => x.1.isSome) && decide ((e :: es).length + ([] : List Keyword).length + (if ([] : List Keyword).isEmpty then 0 else 1) < 30)) = true := by rfl)
    (hline : (apos.endLine == cpos.line) = true := by rfl) (hs : starEach (e :: es) X.env = (false, eval e X.env) :: starEach es X.env := by rfl) (hplain : (backTo cpos (starEach es X.env)).any (·.1) = false := by rfl) :
    PE X (.Call (.Attribute o name apos) (e :: es) [] cpos) (tTM X.K r to t) := ⟨fun pins s σ H Q I h => by
  refine wpAny_Call_method_late hbase hfew hline rfl (thn (ho.run pins s σ H _ I h) fun v s1 ⟨x, H1, I1, r1, ⟨a, xs, ex, ty⟩, q1⟩ => ?_)
  subst ex
  obtain rfl : v = Value.ref a := r1
  obtain ⟨its, rv, ⟨ot, hot, hct, n, hdt⟩, _⟩ := I1.tuple ty.t
  have hdd : ot.dict = none := by
    rcases ty with ⟨ob, hb, hd⟩ | ⟨ob, its, n, hk, hc, hd, _⟩
    · have q := (I1.hok a _ hb).1
      rw [hot] at q
      rw [Option.some.inj q]; exact hd
    · have q := I1.kIn a ob hk
      rw [hot] at q
      rw [Option.some.inj q]; exact hd
  refine ⟨"tuple", id, pa, slot, hty, ⟨ot, hot, hct⟩, fun b e => ⟨ot, by cases e; exact hot, hdd⟩, ?_⟩
  have hA := ha.run cpos pins s1 σ H1 _ I1 q1
  rw [hs] at hA ⊢
  refine Calls.callWith_builtin (by show (false || (backTo cpos (starEach es X.env)).any (·.1)) = false; rw [hplain] <;> rfl) (Calls.evalArgs_plain ?_)
  exact thn hA fun us s2 ⟨vs, H2, I2, r2, q2⟩ => hm pins s2 σ H2 (.ref a) vs (.ref a) us Q I2 rfl r2 q2⟩
end
end L2
set_option Elab.async false
set_option linter.all false
set_option maxRecDepth 100000
/-! # Ab: an abstract reading of Python over HandS: values as data, a memory of cells by number -/
namespace Ab
open PySem L2

/-- abstract values: tuples are data, lists, dicts, instances are places of the memory -/
inductive D where
  | non
  | bl (b : Bool)
  | int (i : Int)
  | str (x : Str)
  | ref (n : Nat)
  | fn (f : Str)
  | tup (ds : List D)

inductive Cell where
  | lst (ds : List D)
  | rol (ds : List D)
  | dic (kvs : List (Key × D))
  | ins (c : Str) (fs : List (Str × D))
  | xd (fs : List (Str × D))
  | exc
abbrev Mem := List Cell
/-- an exception: its class's name, where its fields stand (none: it has none) -/
structure Ex where
  c : Str
  d : Option Nat

structure Glb where
  fa : Str → Addr
  ca : Str → Addr

section
variable (K : PySem.W.Frag) (g : Glb)
mutual
inductive Rep (A : List Addr) (H : Hp) : V → D → Prop
  | non : Rep A H .non .non
  | bl (b : Bool) : Rep A H (.bl b) (.bl b)
  | int (i : Int) : Rep A H (.int i) (.int i)
  | str (x : Str) : Rep A H (.str x) (.str x)
  | ref {n : Nat} {a : Addr} : A[n]? = some a → Rep A H (.ref a) (.ref n)
  | fn (f : Str) : Rep A H (.ref (g.fa f)) (.fn f)
  | tup {a : Addr} {vs : List V} {ds : List D} : SqN K H a vs → RepL A H vs ds → Rep A H (.ref a) (.tup ds)
inductive RepL (A : List Addr) (H : Hp) : List V → List D → Prop
  | nil : RepL A H [] []
  | cons {v : V} {vs : List V} {d : D} {ds : List D} : Rep A H v d → RepL A H vs ds → RepL A H (v :: vs) (d :: ds)
end
/-- entries of a dict, fields of an object -/
inductive RepP {κ : Type} (A : List Addr) (H : Hp) : List (κ × V) → List (κ × D) → Prop
  | nil : RepP A H [] []
  | cons {k : κ} {v : V} {d : D} {vs : List (κ × V)} {ds : List (κ × D)} : Rep K g A H v d → RepP A H vs ds → RepP A H ((k, v) :: vs) ((k, d) :: ds)

/-- a list that is only read: locked, or of the written part -/
def SqF (H : Hp) (a : Addr) (xs : List V) : Prop :=
  (∃ o, H a = some (.frz o (.lst xs))) ∨
    ∃ (o : Obj) (its : Array Value) (n : Nat), K.lookup a = some o ∧ o.cls = .type "list" ∧ o.dict = none ∧ o.data = .seq its n ∧ its.size ≤ sizeLine ∧ Vals xs its.toList
def CellR (A : List Addr) (H : Hp) (a : Addr) : Cell → Prop
  | .lst ds => ∃ vs, H a = some (.lst vs) ∧ RepL K g A H vs ds
  | .rol ds => ∃ vs, SqF K H a vs ∧ RepL K g A H vs ds
  | .dic kvs => ∃ ks, H a = some (.dK ks) ∧ RepP K g A H ks kvs
  | .ins c fs => ∃ dx fv, H a = some (.ins (g.ca c) dx fv) ∧ RepP K g A H fv fs
  | .xd fs => ∃ fv, H a = some (.xd fv) ∧ RepP K g A H fv fs
  | .exc => True

/-- is its object tracked at its own address -/
def trk : Cell → Bool
  | .exc => false
  | .rol _ => false
  | _ => true
structure Rel (A : List Addr) (H : Hp) (mem : Mem) : Prop where
  len : A.length = mem.length
  inj : ∀ (i j : Nat) (a : Addr) (c c' : Cell), A[i]? = some a → A[j]? = some a → mem[i]? = some c → mem[j]? = some c' → trk c = true → trk c' = true → i = j
  cell : ∀ (i : Nat) (a : Addr) (c : Cell), A[i]? = some a → mem[i]? = some c → CellR K g A H a c
structure Stab (A : List Addr) (H : Hp) (A' : List Addr) (H' : Hp) : Prop where
  pre : A <+: A'
  tup : ∀ a xs, SqN K H a xs → SqN K H' a xs
end
theorem Stab.refl {K : PySem.W.Frag} {A : List Addr} {H : Hp} : Stab K A H A H := ⟨List.prefix_refl _, fun _ _ h => h⟩
theorem Stab.trans {K : PySem.W.Frag} {A A1 A2 : List Addr} {H H1 H2 : Hp} (a : Stab K A H A1 H1) (b : Stab K A1 H1 A2 H2) : Stab K A H A2 H2 := ⟨a.pre.trans b.pre, fun c xs h => b.tup c xs (a.tup c xs h)⟩
theorem pre_get {A A' : List Addr} {n : Nat} {a : Addr} (h : A <+: A') (e : A[n]? = some a) : A'[n]? = some a := by
  obtain ⟨t, rfl⟩ := h
  rw [List.getElem?_append_left (List.getElem?_eq_some_iff.mp e).1]
  exact e

section
variable {K : PySem.W.Frag} {g : Glb} {A A' : List Addr} {H H' : Hp}
mutual
theorem Rep.stab (s : Stab K A H A' H') : ∀ {v : V} {d : D}, Rep K g A H v d → Rep K g A' H' v d
  | _, _, .non => .non
  | _, _, .bl b => .bl b
  | _, _, .int b => .int b
  | _, _, .str b => .str b
  | _, _, .ref e => .ref (pre_get s.pre e)
  | _, _, .fn f => .fn f
  | _, _, .tup h l => .tup (s.tup _ _ h) (RepL.stab s l)
theorem RepL.stab (s : Stab K A H A' H') : ∀ {vs : List V} {ds : List D}, RepL K g A H vs ds → RepL K g A' H' vs ds
  | _, _, .nil => .nil
  | _, _, .cons h l => .cons (Rep.stab s h) (RepL.stab s l)
end
theorem RepP.stab {κ : Type} (s : Stab K A H A' H') : ∀ {vs : List (κ × V)} {ds : List (κ × D)}, RepP K g A H vs ds → RepP K g A' H' vs ds
  | _, _, .nil => .nil
  | _, _, .cons h l => .cons (h.stab s) (RepP.stab s l)
theorem RepL.length : ∀ {vs : List V} {ds : List D}, RepL K g A H vs ds → vs.length = ds.length
  | _, _, .nil => rfl
  | _, _, .cons _ l => by simp [RepL.length l]
theorem RepP.length {κ : Type} : ∀ {vs : List (κ × V)} {ds : List (κ × D)}, RepP K g A H vs ds → vs.length = ds.length
  | _, _, .nil => rfl
  | _, _, .cons _ l => by simp [RepP.length l]
theorem RepL.get : ∀ {vs : List V} {ds : List D} {i : Nat} {d : D}, RepL K g A H vs ds → ds[i]? = some d → ∃ v, vs[i]? = some v ∧ Rep K g A H v d
  | _, _, 0, _, .cons h _, e => by simp at e; subst e; exact ⟨_, rfl, h⟩
  | _, _, i + 1, d, .cons _ l, e => by
    obtain ⟨v, h1, h2⟩ := RepL.get (i := i) (d := d) l (by simpa using e)
    exact ⟨v, by simpa using h1, h2⟩
  | _, _, i, _, .nil, e => by simp at e
theorem RepL.get' : ∀ {vs : List V} {ds : List D} {i : Nat} {v : V}, RepL K g A H vs ds → vs[i]? = some v → ∃ d, ds[i]? = some d ∧ Rep K g A H v d
  | _, _, 0, _, .cons h _, e => by simp at e; subst e; exact ⟨_, rfl, h⟩
  | _, _, i + 1, d, .cons _ l, e => by
    obtain ⟨v, h1, h2⟩ := RepL.get' (i := i) (v := d) l (by simpa using e)
    exact ⟨v, by simpa using h1, h2⟩
  | _, _, i, _, .nil, e => by simp at e
theorem RepL.append : ∀ {vs ws : List V} {ds es : List D}, RepL K g A H vs ds → RepL K g A H ws es → RepL K g A H (vs ++ ws) (ds ++ es)
  | _, _, _, _, .nil, s => s
  | _, _, _, _, .cons h l, s => .cons h (RepL.append l s)
theorem RepL.take : ∀ {vs : List V} {ds : List D} (n : Nat), RepL K g A H vs ds → RepL K g A H (vs.take n) (ds.take n)
  | _, _, 0, _ => .nil
  | _, _, _ + 1, .nil => .nil
  | _, _, n + 1, .cons h l => .cons h (RepL.take n l)
theorem RepL.drop : ∀ {vs : List V} {ds : List D} (n : Nat), RepL K g A H vs ds → RepL K g A H (vs.drop n) (ds.drop n)
  | _, _, 0, h => h
  | _, _, _ + 1, .nil => .nil
  | _, _, n + 1, .cons _ l => RepL.drop n l
theorem RepL.set : ∀ {vs : List V} {ds : List D} {v : V} {d : D} (n : Nat), RepL K g A H vs ds → Rep K g A H v d → RepL K g A H (vs.set n v) (ds.set n d)
  | _, _, _, _, 0, .cons _ l, r => .cons r l
  | _, _, _, _, n + 1, .cons h l, r => .cons h (RepL.set n l r)
  | _, _, _, _, _, .nil, _ => .nil
theorem RepL.eraseIdx : ∀ {vs : List V} {ds : List D} (n : Nat), RepL K g A H vs ds → RepL K g A H (vs.eraseIdx n) (ds.eraseIdx n)
  | _, _, 0, .cons _ l => l
  | _, _, n + 1, .cons h l => .cons h (RepL.eraseIdx n l)
  | _, _, _, .nil => .nil
theorem RepL.dropLast : ∀ {vs : List V} {ds : List D}, RepL K g A H vs ds → RepL K g A H vs.dropLast ds.dropLast
  | _, _, .nil => .nil
  | _, _, .cons _ .nil => .nil
  | _, _, .cons h (.cons h2 l) => .cons h (RepL.dropLast (.cons h2 l))
theorem CellR.stab {a : Addr} {c : Cell} (s : Stab K A H A' H') (hl : ∀ vs, H a = some (.lst vs) → H' a = some (.lst vs)) (hq : ∀ vs, SqF K H a vs → SqF K H' a vs) (hd : ∀ vs, H a = some (.dK vs) → H' a = some (.dK vs))
    (hi : ∀ C dx vs, H a = some (.ins C dx vs) → H' a = some (.ins C dx vs)) (hx : ∀ vs, H a = some (.xd vs) → H' a = some (.xd vs)) (h : CellR K g A H a c) : CellR K g A' H' a c := by
  cases c with
  | lst ds => obtain ⟨vs, e, r⟩ := h; exact ⟨vs, hl _ e, r.stab s⟩
  | rol ds => obtain ⟨vs, e, r⟩ := h; exact ⟨vs, hq _ e, r.stab s⟩
  | dic ds => obtain ⟨vs, e, r⟩ := h; exact ⟨vs, hd _ e, r.stab s⟩
  | ins c ds => obtain ⟨dx, vs, e, r⟩ := h; exact ⟨dx, vs, hi _ _ _ e, r.stab s⟩
  | xd ds => obtain ⟨vs, e, r⟩ := h; exact ⟨vs, hx _ e, r.stab s⟩
  | exc => trivial

/-! ### the heap changes: a new object | a tracked one is written -/
theorem sqT_new {p : Addr} {o : HO} (hp : H p = none) {a : Addr} {xs : List V} (h : SqN K H a xs) : SqN K (upd H p o) a xs := by
  rcases h with ⟨ob, h, hd⟩ | h
  · exact .inl ⟨ob, by rw [upd_ne (ne_of_none h hp)]; exact h, hd⟩
  · exact .inr h
theorem SqF.l {a : Addr} {xs : List V} (h : SqF K H a xs) : SqL K H a xs := by
  rcases h with ⟨ob, h⟩ | h
  · exact .inl (.inr ⟨ob, h⟩)
  · exact .inr h
theorem sqL_new {p : Addr} {o : HO} (hp : H p = none) {a : Addr} {xs : List V} (h : SqF K H a xs) : SqF K (upd H p o) a xs := by
  rcases h with ⟨ob, h⟩ | h
  · exact .inl ⟨ob, by rw [upd_ne (ne_of_none h hp)]; exact h⟩
  · exact .inr h
theorem cell_new {p a : Addr} {o : HO} {c : Cell} (hp : H p = none) (s : Stab K A H A' (upd H p o)) (h : CellR K g A H a c) : CellR K g A' (upd H p o) a c :=
  h.stab s (fun _ e => by rw [upd_ne (ne_of_none e hp)]; exact e) (fun _ e => sqL_new hp e) (fun _ e => by rw [upd_ne (ne_of_none e hp)]; exact e) (fun _ _ _ e => by rw [upd_ne (ne_of_none e hp)]; exact e) (fun _ e => by rw [upd_ne (ne_of_none e hp)]; exact e)
/-- a new tuple (or any object that no cell tells) -/
theorem Rel.new {mem : Mem} {p : Addr} {o : HO} (R : Rel K g A H mem) (hp : H p = none) : Stab K A H A (upd H p o) ∧ Rel K g A (upd H p o) mem := by
  have s : Stab K A H A (upd H p o) := ⟨List.prefix_refl _, fun _ _ h => sqT_new hp h⟩
  exact ⟨s, R.len, R.inj, fun i a c e1 e2 => cell_new hp s (R.cell i a c e1 e2)⟩
theorem snoc_get {α : Type} {l : List α} {x y : α} {i : Nat} (h : (l ++ [x])[i]? = some y) : (i < l.length ∧ l[i]? = some y) ∨ (i = l.length ∧ y = x) := by
  by_cases hi : i < l.length
  · rw [List.getElem?_append_left hi] at h
    exact .inl ⟨hi, h⟩
  · rw [List.getElem?_append_right (by omega)] at h
    have e : i - l.length = 0 := by
      by_cases z : i - l.length = 0
      · exact z
      · rw [List.getElem?_eq_none (by simp; omega)] at h
        cases h
    rw [e] at h
    exact .inr ⟨by omega, by simpa using h.symm⟩
theorem trk_some {a : Addr} {c : Cell} (h : CellR K g A H a c) (t : trk c = true) : ∃ o, H a = some o := by
  cases c with
  | lst ds => obtain ⟨vs, e, _⟩ := h; exact ⟨_, e⟩
  | dic ds => obtain ⟨vs, e, _⟩ := h; exact ⟨_, e⟩
  | ins c ds => obtain ⟨_, vs, e, _⟩ := h; exact ⟨_, e⟩
  | xd ds => obtain ⟨vs, e, _⟩ := h; exact ⟨_, e⟩
  | rol ds => cases t
  | exc => cases t
/-- a new cell -/
theorem Rel.alloc {mem : Mem} {p : Addr} {o : HO} {c : Cell} (R : Rel K g A H mem) (hp : H p = none) (hc : ∀ s : Stab K A H (A ++ [p]) (upd H p o), CellR K g (A ++ [p]) (upd H p o) p c) : Stab K A H (A ++ [p]) (upd H p o) ∧ Rel K g (A ++ [p]) (upd H p o) (mem ++ [c]) ∧ (A ++ [p])[mem.length]? = some p := by
  have s : Stab K A H (A ++ [p]) (upd H p o) := ⟨⟨[p], rfl⟩, fun _ _ h => sqT_new hp h⟩
  have frsh : ∀ {i : Nat} {a : Addr} {x : Cell}, A[i]? = some a → mem[i]? = some x → trk x = true → a ≠ p := fun {i a x} e1 e2 t z => by
    obtain ⟨ob, q⟩ := trk_some (R.cell _ _ _ e1 e2) t
    rw [z, hp] at q; cases q
  refine ⟨s, ⟨by simp [R.len], fun i j a x y h1 h2 h3 h4 t1 t2 => ?_, fun i a x h1 h2 => ?_⟩, by rw [← R.len]; simp⟩
  · rcases snoc_get h1 with ⟨l1, h1⟩ | ⟨l1, h1⟩ <;> rcases snoc_get h2 with ⟨l2, h2⟩ | ⟨l2, h2⟩ <;> rcases snoc_get h3 with ⟨l3, h3⟩ | ⟨l3, h3⟩ <;> rcases snoc_get h4 with ⟨l4, h4⟩ | ⟨l4, h4⟩ <;>
      first
        | exact R.inj i j a x y h1 h2 h3 h4 t1 t2
        | (exfalso; have := R.len; omega)
        | exact absurd h1 (by rw [h2]; exact (fun z => frsh h1 h3 t1 z))
        | exact absurd h2 (frsh h1 h3 t1)
        | exact absurd h1 (frsh h2 h4 t2)
        | (have := R.len; omega)
  · rcases snoc_get h1 with ⟨l1, h1⟩ | ⟨l1, h1⟩
    · rcases snoc_get h2 with ⟨l2, h2⟩ | ⟨l2, h2⟩
      · exact cell_new hp s (R.cell _ _ _ h1 h2)
      · exact absurd l1 (by have := R.len; omega)
    · rcases snoc_get h2 with ⟨l2, h2⟩ | ⟨l2, h2⟩
      · exact absurd l2 (by have := R.len; omega)
      · subst h1; subst h2; exact hc s
/-- what writing at a may not touch -/
theorem sqT_write {p : Addr} {o o' : HO} (hp : H p = some o) (hf : ∀ ob xs, o ≠ .frz ob xs) {a : Addr} {xs : List V} (h : SqN K H a xs) : SqN K (upd H p o') a xs := by
  rcases h with ⟨ob, h, hd⟩ | h
  · exact .inl ⟨ob, by rw [upd_ne (ne_of h hp (fun z => hf _ _ z.symm))]; exact h, hd⟩
  · exact .inr h
theorem sqF_write {p : Addr} {o o' : HO} (hp : H p = some o) (hf : ∀ ob xs, o ≠ .frz ob xs) {a : Addr} {xs : List V} (h : SqF K H a xs) : SqF K (upd H p o') a xs := by
  rcases h with ⟨ob, h⟩ | h
  · exact .inl ⟨ob, by rw [upd_ne (ne_of h hp (fun z => hf _ _ z.symm))]; exact h⟩
  · exact .inr h
theorem set_get {α : Type} {l : List α} {x y : α} {n i : Nat} (h : (l.set n x)[i]? = some y) : (i = n ∧ y = x) ∨ (i ≠ n ∧ l[i]? = some y) := by
  by_cases e : i = n
  · subst e
    rw [List.getElem?_set_self' ] at h
    cases q : l[i]? with
    | none => rw [q] at h; cases h
    | some z => rw [q] at h; exact .inl ⟨rfl, (Option.some.inj h).symm⟩
  · rw [List.getElem?_set_ne (Ne.symm e)] at h
    exact .inr ⟨e, h⟩
/-- a tracked cell is written -/
theorem Rel.write {mem : Mem} {n : Nat} {p : Addr} {o' : HO} {c c' : Cell} (R : Rel K g A H mem) (hn : mem[n]? = some c) (ha : A[n]? = some p) (t : trk c = true) (t' : trk c' = true)
    (hc : ∀ s : Stab K A H A (upd H p o'), CellR K g A (upd H p o') p c') : Stab K A H A (upd H p o') ∧ Rel K g A (upd H p o') (mem.set n c') := by
  have hcr := R.cell _ _ _ ha hn
  obtain ⟨o, hp, ht, hf⟩ : ∃ o, H p = some o ∧ (∀ xs, o ≠ .tup xs) ∧ (∀ ob xs, o ≠ .frz ob xs) := by
    cases c with
    | lst ds => obtain ⟨vs, e, _⟩ := hcr; exact ⟨_, e, fun _ z => (by cases z), fun _ _ z => (by cases z)⟩
    | dic ds => obtain ⟨vs, e, _⟩ := hcr; exact ⟨_, e, fun _ z => (by cases z), fun _ _ z => (by cases z)⟩
    | ins c ds => obtain ⟨_, vs, e, _⟩ := hcr; exact ⟨_, e, fun _ z => (by cases z), fun _ _ z => (by cases z)⟩
    | xd ds => obtain ⟨vs, e, _⟩ := hcr; exact ⟨_, e, fun _ z => (by cases z), fun _ _ z => (by cases z)⟩
    | rol ds => cases t
    | exc => cases t
  have s : Stab K A H A (upd H p o') := ⟨List.prefix_refl _, fun _ _ h => sqT_write hp hf h⟩
  refine ⟨s, by rw [List.length_set]; exact R.len, fun i j a x y h1 h2 h3 h4 t1 t2 => ?_, fun i a x h1 h2 => ?_⟩
  · have k : ∀ {i : Nat} {x : Cell}, (mem.set n c')[i]? = some x → trk x = true → ∃ z, mem[i]? = some z ∧ trk z = true := fun {i x} h tx => by
      rcases set_get h with ⟨rfl, _⟩ | ⟨_, h⟩
      · exact ⟨c, hn, t⟩
      · exact ⟨x, h, tx⟩
    obtain ⟨z1, m1, u1⟩ := k h3 t1
    obtain ⟨z2, m2, u2⟩ := k h4 t2
    exact R.inj i j a z1 z2 h1 h2 m1 m2 u1 u2
  · rcases set_get h2 with ⟨rfl, rfl⟩ | ⟨ne, h2⟩
    · rw [ha] at h1; cases h1; exact hc s
    · have hr := R.cell _ _ _ h1 h2
      have nap : trk x = true → a ≠ p := fun tx z => ne (R.inj i n a x c h1 (by rw [z]; exact ha) h2 hn tx t)
      cases x with
      | lst ds => obtain ⟨vs, e, r⟩ := hr; exact ⟨vs, by rw [upd_ne (nap rfl)]; exact e, r.stab s⟩
      | rol ds => obtain ⟨vs, e, r⟩ := hr; exact ⟨vs, sqF_write hp hf e, r.stab s⟩
      | dic ds => obtain ⟨vs, e, r⟩ := hr; exact ⟨vs, by rw [upd_ne (nap rfl)]; exact e, r.stab s⟩
      | ins c ds => obtain ⟨dx, vs, e, r⟩ := hr; exact ⟨dx, vs, by rw [upd_ne (nap rfl)]; exact e, r.stab s⟩
      | xd ds => obtain ⟨vs, e, r⟩ := hr; exact ⟨vs, by rw [upd_ne (nap rfl)]; exact e, r.stab s⟩
      | exc => trivial
end

/-! ### what an abstract run gives -/
inductive R (α : Type) where
  | ok (a : α) (m : Mem)
  | er (x : Ex) (m : Mem)
  | no
abbrev Env' := List (Option D)
abbrev AE := Env' → Mem → R D
abbrev AA := Env' → Mem → R (List D)
abbrev AT := Env' → Mem → R Bool
abbrev AF := List D → Mem → R D
def R.bind {α β : Type} (r : R α) (f : α → Mem → R β) : R β := match r with
  | .ok a m => f a m
  | .er x m => .er x m
  | .no => .no
theorem R.bind_ok {α β : Type} {a : α} {m : Mem} {f : α → Mem → R β} : (R.ok a m).bind f = f a m := rfl
theorem R.bind_er {α β : Type} {x : Ex} {m : Mem} {f : α → Mem → R β} : (R.er x m : R α).bind f = .er x m := rfl
theorem R.bind_no {α β : Type} {f : α → Mem → R β} : (R.no : R α).bind f = .no := rfl
def ExR (g : Glb) (A : List Addr) (x : Ex) (c : Value) (dd : Option Addr) : Prop := c = .ref (g.ca x.c) ∧ match x.d with
  | none => dd = none
  | some n => ∃ a : Addr, dd = some a ∧ A[n]? = some a
theorem ExR.pre {g : Glb} {A A' : List Addr} {x : Ex} {c : Value} {dd : Option Addr} (h : ExR g A x c dd) (p : A <+: A') : ExR g A' x c dd := by
  obtain ⟨h1, h2⟩ := h
  refine ⟨h1, ?_⟩
  cases q : x.d with
  | none => rw [q] at h2; exact h2
  | some n =>
    rw [q] at h2
    obtain ⟨a, e1, e2⟩ := h2
    exact ⟨a, e1, pre_get p e2⟩
/-- what must hold of the ends -/
def Post (K : PySem.W.Frag) (g : Glb) {α β : Type} (rl : List Addr → Hp → β → α → Prop) (A : List Addr) (H : Hp) (r : R α) (Q : β → Hp → Prop) (W : Value → Option Addr → Hp → Prop) : Prop := match r with
  | .ok d m => ∀ v A' H', Stab K A H A' H' → Rel K g A' H' m → rl A' H' v d → Q v H'
  | .er x m => ∀ c dd A' H', Stab K A H A' H' → Rel K g A' H' m → ExR g A' x c dd → W c dd H'
  | .no => False
section
variable {K : PySem.W.Frag} {g : Glb} {A A' : List Addr} {H H' : Hp} {α β γ δ : Type} {rl : List Addr → Hp → β → α → Prop} {rl2 : List Addr → Hp → δ → γ → Prop} {Q1 : β → Hp → Prop} {Q2 : δ → Hp → Prop} {W : Value → Option Addr → Hp → Prop}
theorem Post.up {r : R α} (s : Stab K A H A' H') (p : Post K g rl A H r Q1 W) : Post K g rl A' H' r Q1 W := by
  cases r with
  | ok d m => exact fun v A2 H2 s2 R2 r2 => p v A2 H2 (s.trans s2) R2 r2
  | er x m => exact fun c dd A2 H2 s2 R2 r2 => p c dd A2 H2 (s.trans s2) R2 r2
  | no => exact p
theorem Post.bnd {r : R α} {f : α → Mem → R γ} (p : Post K g rl2 A H (r.bind f) Q2 W) (k : ∀ v A' H' d m, Stab K A H A' H' → Rel K g A' H' m → rl A' H' v d → Post K g rl2 A' H' (f d m) Q2 W → Q1 v H') : Post K g rl A H r Q1 W := by
  cases r with
  | ok d m => exact fun v A2 H2 s2 R2 r2 => k v A2 H2 d m s2 R2 r2 (Post.up s2 p)
  | er x m => exact p
  | no => exact p
end
def EnvR (K : PySem.W.Frag) (g : Glb) (A : List Addr) (H : Hp) (σ : L2.St) (env : Env') : Prop := σ.length = env.length ∧ ∀ (i : Nat) (d : D), env[i]? = some (some d) → ∃ v, σ[i]? = some (some v) ∧ Rep K g A H v d
theorem EnvR.stab {K : PySem.W.Frag} {g : Glb} {A A' : List Addr} {H H' : Hp} {σ : L2.St} {env : Env'} (e : EnvR K g A H σ env) (s : Stab K A H A' H') : EnvR K g A' H' σ env :=
  ⟨e.1, fun i d h => by obtain ⟨v, h1, h2⟩ := e.2 i d h; exact ⟨v, h1, h2.stab s⟩⟩
theorem EnvR.set {K : PySem.W.Frag} {g : Glb} {A : List Addr} {H : Hp} {σ : L2.St} {env : Env'} (e : EnvR K g A H σ env) (n : Nat) {v : V} {d : D} (r : Rep K g A H v d) : EnvR K g A H (σ.set n (some v)) (env.set n (some d)) := by
  refine ⟨by simp [e.1], fun i d' h => ?_⟩
  have hi : i < env.length := by
    have := (List.getElem?_eq_some_iff.mp h).1
    rw [List.length_set] at this
    exact this
  rcases set_get h with ⟨rfl, h'⟩ | ⟨ne, h⟩
  · cases h'
    exact ⟨v, by rw [List.getElem?_set_self (by rw [e.1]; exact hi)], r⟩
  · obtain ⟨w, h1, h2⟩ := e.2 i d' h
    exact ⟨w, by rw [List.getElem?_set_ne (Ne.symm ne)]; exact h1, h2⟩
theorem EnvR.drop {K : PySem.W.Frag} {g : Glb} {A : List Addr} {H : Hp} {σ : L2.St} {env : Env'} (e : EnvR K g A H σ env) (n : Nat) (o : Option V) : EnvR K g A H (σ.set n o) (env.set n none) := by
  refine ⟨by simp [e.1], fun i d' h => ?_⟩
  rcases set_get h with ⟨rfl, h'⟩ | ⟨ne, h⟩
  · cases h'
  · obtain ⟨w, h1, h2⟩ := e.2 i d' h
    exact ⟨w, by rw [List.getElem?_set_ne (Ne.symm ne)]; exact h1, h2⟩
/-- places whose objects are told -/
abbrev Gam := List (Nat × Addr)
def Gam.Ok (γ : Gam) (A : List Addr) : Prop := ∀ p ∈ γ, A[p.1]? = some p.2
theorem Gam.Ok.pre {γ : Gam} {A A' : List Addr} (h : γ.Ok A) (p : A <+: A') : γ.Ok A' := fun q hq => pre_get p (h q hq)

/-! ### judgements -/
structure SE (X : Cx) (g : Glb) (γ : Gam) (e : Expr) (a : AE) : Prop where
  out : ∀ W : WX, Takes X W → ∃ t : TE, PE X e t ∧ ∀ σ env A H mem Q, γ.Ok A → EnvR X.K g A H σ env → Rel X.K g A H mem → Post X.K g (Rep X.K g) A H (a env mem) Q (fun c d H' => W c d σ H') → t σ H Q
structure SA (X : Cx) (g : Glb) (γ : Gam) (es : List Expr) (a : AA) : Prop where
  out : ∀ W : WX, Takes X W → ∃ t : TA, PA X es t ∧ ∀ σ env A H mem Q, γ.Ok A → EnvR X.K g A H σ env → Rel X.K g A H mem → Post X.K g (RepL X.K g) A H (a env mem) Q (fun c d H' => W c d σ H') → t σ H Q
structure ST (X : Cx) (g : Glb) (γ : Gam) (e : Expr) (a : AT) : Prop where
  out : ∀ W : WX, Takes X W → ∃ t : TT, PT X e t ∧ ∀ σ env A H mem Q, γ.Ok A → EnvR X.K g A H σ env → Rel X.K g A H mem → Post X.K g (fun _ _ => Eq) A H (a env mem) Q (fun c d H' => W c d σ H') → t σ H Q
end Ab
set_option Elab.async false
set_option linter.all false
set_option maxRecDepth 100000
namespace Ab
open PySem L2

/-! ### expressions: the abstract words -/
def eVar (i : Nat) : AE := fun env m => match env[i]? with
  | some (some d) => .ok d m
  | _ => .no
def eC (d : D) : AE := fun _ m => .ok d m
abbrev F2 := D → D → Mem → R D
abbrev F1 := D → Mem → R D
abbrev FL := List D → Mem → R D
def eOp (f : F2) (a b : AE) : AE := fun env m => (a env m).bind fun x m => (b env m).bind fun y m => f x y m
def eUn (f : F1) (a : AE) : AE := fun env m => (a env m).bind f
def aNil : AA := fun _ m => .ok [] m
def aCons (a : AE) (r : AA) : AA := fun env m => (a env m).bind fun x m => (r env m).bind fun xs m => .ok (x :: xs) m
def eCall (f : FL) (a : AA) : AE := fun env m => (a env m).bind f
def eIf (c : AT) (a b : AE) : AE := fun env m => (c env m).bind fun k m => if k = true then a env m else b env m
def asB (d : D) (m : Mem) : R Bool := match d with
  | .bl b => .ok b m
  | _ => .no
def tVal (a : AE) : AT := fun env m => (a env m).bind asB
def tNt (a : AT) : AT := fun env m => (a env m).bind fun k m => .ok (!k) m
def tAn (a b : AT) : AT := fun env m => (a env m).bind fun k m => if k = true then b env m else .ok false m
def tOrr (a b : AT) : AT := fun env m => (a env m).bind fun k m => if k = true then .ok true m else b env m
def eAnd (a b : AE) : AE := fun env m => ((a env m).bind asB).bind fun k m => if k = true then b env m else .ok (.bl false) m
def eOr (a b : AE) : AE := fun env m => ((a env m).bind asB).bind fun k m => if k = true then .ok (.bl true) m else b env m
def eNot (a : AE) : AE := fun env m => ((a env m).bind asB).bind fun k m => .ok (.bl (!k)) m
/-- a comparison in a row -/
def eChain (f f' : F2) (a b c : AE) : AE := fun env m => (a env m).bind fun x m => (b env m).bind fun y m => ((f x y m).bind asB).bind fun k m => if k = true then (c env m).bind fun z m => f' y z m else .ok (.bl false) m
def mkTup (ds : List D) (m : Mem) : R D := if ds.length ≤ sizeLine then .ok (.tup ds) m else .no
def mkLst (ds : List D) (m : Mem) : R D := if ds.length ≤ sizeLine then .ok (.ref m.length) (m ++ [.lst ds]) else .no
def mkDic (kvs : List (Key × D)) (m : Mem) : R D := .ok (.ref m.length) (m ++ [.dic kvs])

/-! ### the judgement of an operation by values -/
structure OpA (X : Cx) (g : Glb) (f : Value → Value → Sem Value) (F : F2) : Prop where
  out : ∃ r : R2, OpR X f r ∧ ∀ A H mem x y dx dy Q W, Rel X.K g A H mem → Rep X.K g A H x dx → Rep X.K g A H y dy → Post X.K g (Rep X.K g) A H (F dx dy mem) Q W → r x y H Q
structure UnA (X : Cx) (g : Glb) (f : Value → Sem Value) (F : F1) : Prop where
  out : ∃ r, UnR X f r ∧ ∀ A H mem x dx Q W, Rel X.K g A H mem → Rep X.K g A H x dx → Post X.K g (Rep X.K g) A H (F dx mem) Q W → r x H Q
structure CaA (X : Cx) (g : Glb) (f : Value) (F : FL) : Prop where
  out : ∃ r, CallR X f r ∧ ∀ A H mem xs ds Q W, Rel X.K g A H mem → RepL X.K g A H xs ds → Post X.K g (Rep X.K g) A H (F ds mem) Q W → r xs H Q
structure IxA (X : Cx) (g : Glb) (F : F2) : Prop where
  out : ∃ r, IxR X r ∧ ∀ A H mem x y dx dy Q W, Rel X.K g A H mem → Rep X.K g A H x dx → Rep X.K g A H y dy → Post X.K g (Rep X.K g) A H (F dx dy mem) Q W → r x y H Q
structure MtA (X : Cx) (g : Glb) (T id : String) (F : D → FL) : Prop where
  out : ∃ r, MtR X id r ∧ ∀ A H mem x dx xs ds Q W, Rel X.K g A H mem → Rep X.K g A H x dx → RepL X.K g A H xs ds → Post X.K g (Rep X.K g) A H (F dx ds mem) Q W → r x xs H Q

section
variable {X : Cx} {g : Glb} {γ : Gam} {e a b c : Expr} {es : List Expr} {ia ib ic : AE} {aa : AA} {pos : Pos}
theorem se_var (i : Nat) {x : Str} (hN : X.N[i]? = some x := by rfl) (hv : Vis X.env.scope x := by first | exact Or.inl rfl | exact Or.inr (Or.inl rfl) | exact Or.inr (Or.inr rfl)) (hd : (x == ("__debug__" : Str)) = false := by decide)
    (hcd : (x == ("__classdict__" : Str)) = false := by decide) : SE X g γ (.Name x pos) (eVar i) :=
  ⟨fun W tk => ⟨_, pe_var hN hv hd hcd, fun σ env A H mem Q hg he hr hp => by
    unfold eVar at hp
    cases h : env[i]? with
    | none => rw [h] at hp; exact hp.elim
    | some o =>
      cases o with
      | none => rw [h] at hp; exact hp.elim
      | some d =>
        rw [h] at hp
        obtain ⟨v, h1, h2⟩ := he.2 i d h
        exact ⟨v, h1, hp v A H .refl hr h2⟩⟩⟩
theorem se_c {v : V} {d : D} (h : PE X e (tC v)) (r : ∀ A H, Rep X.K g A H v d) : SE X g γ e (eC d) :=
  ⟨fun W tk => ⟨_, h, fun σ env A H mem Q hg he hr hp => hp v A H .refl hr (r A H)⟩⟩
theorem se_int {i : Int} {k p} : SE X g γ (.Constant (.int i) k p) (eC (.int i)) := se_c pe_int fun _ _ => .int i
theorem se_str {i : Str} {k p} : SE X g γ (.Constant (.str i) k p) (eC (.str i)) := se_c pe_str fun _ _ => .str i
theorem se_bl {i : Bool} {k p} : SE X g γ (.Constant (.bool i) k p) (eC (.bl i)) := se_c pe_bl fun _ _ => .bl i
theorem se_non {k p} : SE X g γ (.Constant .none k p) (eC .non) := se_c pe_non fun _ _ => .non
/-- a module's constant -/
theorem se_glob {x : Str} {v : V} {u : Value} {d : D} (hm : X.mg x = some u) (r : RelV v u) (hrep : ∀ A H, Rep X.K g A H v d) (hg : L2.Gl X x := by rfl) (hd : (x == ("__debug__" : Str)) = false := by decide) : SE X g γ (.Name x pos) (eC d) := se_c (pe_glob hg hm r hd) hrep
theorem se_bin {op : Operator} {F : F2} (ho : OpA X g (binaryOp op) F) (ha : SE X g γ a ia) (hb : SE X g γ b ib) : SE X g γ (.BinOp a op b pos) (eOp F ia ib) :=
  ⟨fun W tk => by
    obtain ⟨r, h1, h2⟩ := ho.out
    obtain ⟨ta, pa, qa⟩ := ha.out W tk
    obtain ⟨tb, pb, qb⟩ := hb.out W tk
    refine ⟨_, pe_op h1 pa pb, fun σ env A H mem Q hg he hr hp => ?_⟩
    refine qa σ env A H mem _ hg he hr (hp.bnd fun v A1 H1 d m s1 r1 rv p1 => ?_)
    refine qb σ env A1 H1 m _ (hg.pre s1.pre) (he.stab s1) r1 (p1.bnd fun v2 A2 H2 d2 m2 s2 r2 rv2 p2 => ?_)
    exact h2 A2 H2 m2 v v2 d d2 _ _ r2 (rv.stab s2) rv2 p2⟩
theorem se_cmp {op : CmpOp} {F : F2} (ho : OpA X g (compareOp op) F) (ha : SE X g γ a ia) (hb : SE X g γ b ib) (hm : behindInMarks op b = false := by first | rfl | exact nomark _) : SE X g γ (.Compare a [op] [b] pos) (eOp F ia ib) :=
  ⟨fun W tk => by
    obtain ⟨r, h1, h2⟩ := ho.out
    obtain ⟨ta, pa, qa⟩ := ha.out W tk
    obtain ⟨tb, pb, qb⟩ := hb.out W tk
    refine ⟨_, pe_cmpR h1 pa pb hm, fun σ env A H mem Q hg he hr hp => ?_⟩
    refine qa σ env A H mem _ hg he hr (hp.bnd fun v A1 H1 d m s1 r1 rv p1 => ?_)
    refine qb σ env A1 H1 m _ (hg.pre s1.pre) (he.stab s1) r1 (p1.bnd fun v2 A2 H2 d2 m2 s2 r2 rv2 p2 => ?_)
    exact h2 A2 H2 m2 v v2 d d2 _ _ r2 (rv.stab s2) rv2 p2⟩
theorem se_un {op : UnaryOp} {F : F1} (ho : UnA X g (unaryOp op) F) (ha : SE X g γ a ia) : SE X g γ (.UnaryOp op a pos) (eUn F ia) :=
  ⟨fun W tk => by
    obtain ⟨r, h1, h2⟩ := ho.out
    obtain ⟨ta, pa, qa⟩ := ha.out W tk
    refine ⟨_, pe_un h1 pa, fun σ env A H mem Q hg he hr hp => ?_⟩
    refine qa σ env A H mem _ hg he hr (hp.bnd fun v A1 H1 d m s1 r1 rv p1 => ?_)
    exact h2 A1 H1 m v d _ _ r1 rv p1⟩
theorem se_ix {F : F2} (ho : IxA X g F) (ha : SE X g γ a ia) (hb : SE X g γ b ib) (hs : PlainIx b := by exact fun _ _ => rfl) : SE X g γ (.Subscript a b pos) (eOp F ia ib) :=
  ⟨fun W tk => by
    obtain ⟨r, h1, h2⟩ := ho.out
    obtain ⟨ta, pa, qa⟩ := ha.out W tk
    obtain ⟨tb, pb, qb⟩ := hb.out W tk
    refine ⟨_, pe_ix h1 pa pb hs, fun σ env A H mem Q hg he hr hp => ?_⟩
    refine qa σ env A H mem _ hg he hr (hp.bnd fun v A1 H1 d m s1 r1 rv p1 => ?_)
    refine qb σ env A1 H1 m _ (hg.pre s1.pre) (he.stab s1) r1 (p1.bnd fun v2 A2 H2 d2 m2 s2 r2 rv2 p2 => ?_)
    exact h2 A2 H2 m2 v v2 d d2 _ _ r2 (rv.stab s2) rv2 p2⟩
theorem sa_nil : SA X g γ [] aNil := ⟨fun W tk => ⟨_, pa_nil, fun σ env A H mem Q hg he hr hp => hp [] A H .refl hr .nil⟩⟩
theorem sa_cons (ha : SE X g γ e ia) (hr : SA X g γ es aa) (hs : starEach (e :: es) X.env = (false, eval e X.env) :: starEach es X.env := by rfl) : SA X g γ (e :: es) (aCons ia aa) :=
  ⟨fun W tk => by
    obtain ⟨ta, pa, qa⟩ := ha.out W tk
    obtain ⟨tb, pb, qb⟩ := hr.out W tk
    refine ⟨_, pa_cons pa pb hs, fun σ env A H mem Q hg he hr hp => ?_⟩
    refine qa σ env A H mem _ hg he hr (hp.bnd fun v A1 H1 d m s1 r1 rv p1 => ?_)
    refine qb σ env A1 H1 m _ (hg.pre s1.pre) (he.stab s1) r1 (p1.bnd fun v2 A2 H2 d2 m2 s2 r2 rv2 p2 => ?_)
    exact p2 _ A2 H2 .refl r2 (.cons (rv.stab s2) rv2)⟩
theorem se_tup {x1} (h : SA X g γ es aa) : SE X g γ (.Tuple es x1 pos) (eCall mkTup aa) :=
  ⟨fun W tk => by
    obtain ⟨t, p, q⟩ := h.out W tk
    refine ⟨_, pe_tupF p, fun σ env A H mem Q hg he hr hp => ?_⟩
    refine q σ env A H mem _ hg he hr (hp.bnd fun vs A1 H1 ds m s1 r1 rv p1 => ?_)
    unfold mkTup at p1
    by_cases hl : ds.length ≤ sizeLine
    · rw [if_pos hl] at p1
      refine ⟨by rw [rv.length]; exact hl, fun p o ho hp => ?_⟩
      obtain ⟨s2, r2⟩ := r1.new (o := .frz o (.tup vs)) hp
      exact p1 _ A1 _ s2 r2 (.tup (.inl ⟨o, upd_same, ho⟩) (rv.stab s2))
    · rw [if_neg hl] at p1; exact p1.elim⟩
theorem se_lst (h : SA X g γ es aa) : SE X g γ (.List es pos) (eCall mkLst aa) :=
  ⟨fun W tk => by
    obtain ⟨t, p, q⟩ := h.out W tk
    refine ⟨_, pe_lst p, fun σ env A H mem Q hg he hr hp => ?_⟩
    refine q σ env A H mem _ hg he hr (hp.bnd fun vs A1 H1 ds m s1 r1 rv p1 => ?_)
    unfold mkLst at p1
    by_cases hl : ds.length ≤ sizeLine
    · rw [if_pos hl] at p1
      refine ⟨by rw [rv.length]; exact hl, fun p hp => ?_⟩
      obtain ⟨s2, r2, e2⟩ := r1.alloc (o := .lst vs) (c := .lst ds) hp fun s => ⟨vs, upd_same, rv.stab s⟩
      exact p1 _ _ _ s2 r2 (.ref e2)
    · rw [if_neg hl] at p1; exact p1.elim⟩
theorem se_dnew : SE X g γ (.Dict [] [] pos) (eCall (fun _ => mkDic []) aNil) :=
  ⟨fun W tk => ⟨_, pe_dnewK, fun σ env A H mem Q hg he hr hp p hn => by
    obtain ⟨s2, r2, e2⟩ := hr.alloc (o := .dK []) (c := .dic []) hn fun s => ⟨[], upd_same, .nil⟩
    exact hp _ _ _ s2 r2 (.ref e2)⟩⟩
/-! tests -/
theorem asB_in {A : List Addr} {H : Hp} {v : V} {d : D} {m : Mem} {Q : Bool → Hp → Prop} {W} (rv : Rep X.K g A H v d) (R1 : Rel X.K g A H m) (p : Post X.K g (fun _ _ => Eq) A H (asB d m) Q W) : ∃ k, v = .bl k ∧ Q k H := by
  unfold asB at p
  cases rv with
  | bl b => exact ⟨b, rfl, p b A H .refl R1 rfl⟩
  | _ => exact p.elim
theorem st_val (h : SE X g γ e ia) (he : ∀ whole, isTrue e X.env whole = (do let v ← whole; standAt e.pos; holding [v] (truthy v)) := by intro _; rfl) : ST X g γ e (tVal ia) :=
  ⟨fun W tk => by
    obtain ⟨t, p, q⟩ := h.out W tk
    refine ⟨_, pt_val p he, fun σ env A H mem Q hg he hr hp => ?_⟩
    exact q σ env A H mem _ hg he hr (hp.bnd fun v A1 H1 d m s1 r1 rv p1 => asB_in rv r1 p1)⟩
/-- a comparison as a test -/
theorem st_cmp {op : CmpOp} {F : F2} (ho : OpA X g (compareOp op) F) (ha : SE X g γ a ia) (hb : SE X g γ b ib) (hm : behindInMarks op b = false := by first | rfl | exact nomark _) : ST X g γ (.Compare a [op] [b] pos) (tVal (eOp F ia ib)) :=
  ⟨fun W tk => by
    obtain ⟨r, h1, h2⟩ := ho.out
    obtain ⟨ta, pa, qa⟩ := ha.out W tk
    obtain ⟨tb, pb, qb⟩ := hb.out W tk
    refine ⟨_, pt_cmpR h1 pa pb hm, fun σ env A H mem Q hg he hr hp => ?_⟩
    have hp' : Post X.K g (fun _ _ => Eq) A H ((ia env mem).bind fun x m => ((ib env m).bind fun y m => F x y m).bind asB) Q (fun c d H' => W c d σ H') := by
      have e : tVal (eOp F ia ib) env mem = (ia env mem).bind fun x m => ((ib env m).bind fun y m => F x y m).bind asB := by
        unfold tVal eOp
        cases ia env mem <;> rfl
      rw [← e]; exact hp
    refine qa σ env A H mem _ hg he hr (hp'.bnd fun v A1 H1 d m s1 r1 rv p1 => ?_)
    have p1' : Post X.K g (fun _ _ => Eq) A1 H1 ((ib env m).bind fun y m => (F d y m).bind asB) Q (fun c d H' => W c d σ H') := by
      have e : (((ib env m).bind fun y m => F d y m).bind asB) = (ib env m).bind fun y m => (F d y m).bind asB := by cases ib env m <;> rfl
      rw [← e]; exact p1
    refine qb σ env A1 H1 m _ (hg.pre s1.pre) (he.stab s1) r1 (p1'.bnd fun v2 A2 H2 d2 m2 s2 r2 rv2 p2 => ?_)
    exact h2 A2 H2 m2 v v2 d d2 _ _ r2 (rv.stab s2) rv2 (p2.bnd fun v3 A3 H3 d3 m3 s3 r3 rv3 p3 => asB_in rv3 r3 p3)⟩
theorem st_not {t : AT} (h : ST X g γ a t) : ST X g γ (.UnaryOp .Not a pos) (tNt t) :=
  ⟨fun W tk => by
    obtain ⟨t, p, q⟩ := h.out W tk
    refine ⟨_, pt_not p, fun σ env A H mem Q hg he hr hp => ?_⟩
    refine q σ env A H mem _ hg he hr (hp.bnd fun v A1 H1 d m s1 r1 rv p1 => ?_)
    subst rv
    exact p1 _ A1 H1 .refl r1 rfl⟩
/-- and, or as tests -/
structure SW (X : Cx) (g : Glb) (γ : Gam) (e : Expr) (a : AT) : Prop where
  out : ∀ W : WX, Takes X W → ∃ t : TT, PW X e t ∧ ∀ σ env A H mem Q, γ.Ok A → EnvR X.K g A H σ env → Rel X.K g A H mem → Post X.K g (fun _ _ => Eq) A H (a env mem) Q (fun c d H' => W c d σ H') → t σ H Q
theorem sw_st {t : AT} (h : SW X g γ e t) : ST X g γ e t := ⟨fun W tk => by obtain ⟨t, p, q⟩ := h.out W tk; exact ⟨t, p.pt, q⟩⟩
theorem sw_and1 {t : AT} (h : ST X g γ a t) : SW X g γ (.BoolOp .And [a] pos) t := ⟨fun W tk => by obtain ⟨t, p, q⟩ := h.out W tk; exact ⟨t, pw_and1 p, q⟩⟩
theorem sw_or1 {t : AT} (h : ST X g γ a t) : SW X g γ (.BoolOp .Or [a] pos) t := ⟨fun W tk => by obtain ⟨t, p, q⟩ := h.out W tk; exact ⟨t, pw_or1 p, q⟩⟩
theorem sw_and {t u : AT} (ha : ST X g γ a t) (hb : SW X g γ (.BoolOp .And (b :: es) pos) u) : SW X g γ (.BoolOp .And (a :: b :: es) pos) (tAn t u) :=
  ⟨fun W tk => by
    obtain ⟨ta, pa, qa⟩ := ha.out W tk
    obtain ⟨tb, pb, qb⟩ := hb.out W tk
    refine ⟨_, pw_and pa pb, fun σ env A H mem Q hg he hr hp => ?_⟩
    refine qa σ env A H mem _ hg he hr (hp.bnd fun v A1 H1 d m s1 r1 rv p1 => ?_)
    subst rv
    cases v with
    | true => exact qb σ env A1 H1 m _ (hg.pre s1.pre) (he.stab s1) r1 p1
    | false => exact p1 _ A1 H1 .refl r1 rfl⟩
theorem sw_or {t u : AT} (ha : ST X g γ a t) (hb : SW X g γ (.BoolOp .Or (b :: es) pos) u) : SW X g γ (.BoolOp .Or (a :: b :: es) pos) (tOrr t u) :=
  ⟨fun W tk => by
    obtain ⟨ta, pa, qa⟩ := ha.out W tk
    obtain ⟨tb, pb, qb⟩ := hb.out W tk
    refine ⟨_, pw_or pa pb, fun σ env A H mem Q hg he hr hp => ?_⟩
    refine qa σ env A H mem _ hg he hr (hp.bnd fun v A1 H1 d m s1 r1 rv p1 => ?_)
    subst rv
    cases v with
    | false => exact qb σ env A1 H1 m _ (hg.pre s1.pre) (he.stab s1) r1 p1
    | true => exact p1 _ A1 H1 .refl r1 rfl⟩
theorem se_if {c : Expr} {t : AT} (hc : ST X g γ c t) (ha : SE X g γ a ia) (hb : SE X g γ b ib) : SE X g γ (.IfExp c a b pos) (eIf t ia ib) :=
  ⟨fun W tk => by
    obtain ⟨tc, pc, qc⟩ := hc.out W tk
    obtain ⟨ta, pa, qa⟩ := ha.out W tk
    obtain ⟨tb, pb, qb⟩ := hb.out W tk
    refine ⟨_, pe_ifExp pc pa pb, fun σ env A H mem Q hg he hr hp => ?_⟩
    refine qc σ env A H mem _ hg he hr (hp.bnd fun v A1 H1 d m s1 r1 rv p1 => ?_)
    subst rv
    cases v with
    | true => exact qa σ env A1 H1 m _ (hg.pre s1.pre) (he.stab s1) r1 p1
    | false => exact qb σ env A1 H1 m _ (hg.pre s1.pre) (he.stab s1) r1 p1⟩
/-- and, or, not as values -/
theorem se_one {op} (h : SE X g γ a ia) : SE X g γ (.BoolOp op [a] pos) ia := ⟨fun W tk => by obtain ⟨t, p, q⟩ := h.out W tk; exact ⟨t, pe_one p, q⟩⟩
theorem se_and (ha : SE X g γ a ia) (hb : SE X g γ (.BoolOp .And (b :: es) pos) ib) : SE X g γ (.BoolOp .And (a :: b :: es) pos) (eAnd ia ib) :=
  ⟨fun W tk => by
    obtain ⟨ta, pa, qa⟩ := ha.out W tk
    obtain ⟨tb, pb, qb⟩ := hb.out W tk
    refine ⟨_, pe_and pa pb, fun σ env A H mem Q hg he hr hp => ?_⟩
    have hp' : Post X.K g (Rep X.K g) A H ((ia env mem).bind fun d m => (asB d m).bind fun k m => if k = true then ib env m else .ok (.bl false) m) Q (fun c d H' => W c d σ H') := by
      have e : eAnd ia ib env mem = ((ia env mem).bind fun d m => (asB d m).bind fun k m => if k = true then ib env m else .ok (.bl false) m) := by unfold eAnd; cases ia env mem <;> rfl
      rw [← e]; exact hp
    refine qa σ env A H mem _ hg he hr (hp'.bnd fun v A1 H1 d m s1 r1 rv p1 => ?_)
    unfold asB at p1
    cases rv with
    | bl k =>
      refine ⟨k, rfl, ?_⟩
      cases k with
      | true => exact qb σ env A1 H1 m _ (hg.pre s1.pre) (he.stab s1) r1 p1
      | false => exact p1 _ A1 H1 .refl r1 (.bl _)
    | _ => exact p1.elim⟩
theorem se_or (ha : SE X g γ a ia) (hb : SE X g γ (.BoolOp .Or (b :: es) pos) ib) : SE X g γ (.BoolOp .Or (a :: b :: es) pos) (eOr ia ib) :=
  ⟨fun W tk => by
    obtain ⟨ta, pa, qa⟩ := ha.out W tk
    obtain ⟨tb, pb, qb⟩ := hb.out W tk
    refine ⟨_, pe_or pa pb, fun σ env A H mem Q hg he hr hp => ?_⟩
    have hp' : Post X.K g (Rep X.K g) A H ((ia env mem).bind fun d m => (asB d m).bind fun k m => if k = true then .ok (.bl true) m else ib env m) Q (fun c d H' => W c d σ H') := by
      have e : eOr ia ib env mem = ((ia env mem).bind fun d m => (asB d m).bind fun k m => if k = true then .ok (.bl true) m else ib env m) := by unfold eOr; cases ia env mem <;> rfl
      rw [← e]; exact hp
    refine qa σ env A H mem _ hg he hr (hp'.bnd fun v A1 H1 d m s1 r1 rv p1 => ?_)
    unfold asB at p1
    cases rv with
    | bl k =>
      refine ⟨k, rfl, ?_⟩
      cases k with
      | false => exact qb σ env A1 H1 m _ (hg.pre s1.pre) (he.stab s1) r1 p1
      | true => exact p1 _ A1 H1 .refl r1 (.bl _)
    | _ => exact p1.elim⟩
theorem se_not (ha : SE X g γ a ia) : SE X g γ (.UnaryOp .Not a pos) (eNot ia) :=
  ⟨fun W tk => by
    obtain ⟨ta, pa, qa⟩ := ha.out W tk
    refine ⟨_, pe_not pa, fun σ env A H mem Q hg he hr hp => ?_⟩
    have hp' : Post X.K g (Rep X.K g) A H ((ia env mem).bind fun d m => (asB d m).bind fun k m => .ok (.bl (!k)) m) Q (fun c d H' => W c d σ H') := by
      have e : eNot ia env mem = ((ia env mem).bind fun d m => (asB d m).bind fun k m => .ok (.bl (!k)) m) := by unfold eNot; cases ia env mem <;> rfl
      rw [← e]; exact hp
    refine qa σ env A H mem _ hg he hr (hp'.bnd fun v A1 H1 d m s1 r1 rv p1 => ?_)
    unfold asB at p1
    cases rv with
    | bl k => exact ⟨k, rfl, p1 _ A1 H1 .refl r1 (.bl _)⟩
    | _ => exact p1.elim⟩
end
end Ab
set_option Elab.async false
set_option linter.all false
set_option maxRecDepth 100000
namespace Ab
open PySem L2

/-! ### operators -/
def dAdd : F2 := fun x y m => match x, y with
  | .int i, .int j => .ok (.int (i + j)) m
  | .str s, .str t => if s.length + t.length ≤ sizeLine then .ok (.str (s ++ t)) m else .no
  | .tup a, .tup b => if a.length + b.length ≤ sizeLine then .ok (.tup (a ++ b)) m else .no
  | .ref p, .ref q => match m[p]?, m[q]? with
    | some (.lst a), some (.lst b) => if a.length + b.length ≤ sizeLine then .ok (.ref m.length) (m ++ [.lst (a ++ b)]) else .no
    | _, _ => .no
  | _, _ => .no
def dSub : F2 := fun x y m => match x, y with
  | .int i, .int j => .ok (.int (i - j)) m
  | _, _ => .no
def dMul : F2 := fun x y m => match x, y with
  | .int i, .int j => if (-(2 ^ 64) < i ∧ i < 2 ^ 64) ∨ (-(2 ^ 64) < j ∧ j < 2 ^ 64) then .ok (.int (i * j)) m else .no
  | .ref p, .int k => match m[p]? with
    | some (.lst a) => if -(2 ^ 63) ≤ k ∧ k < 2 ^ 63 ∧ a.length * k.toNat ≤ sizeLine then .ok (.ref m.length) (m ++ [.lst (List.replicate k.toNat a).flatten]) else .no
    | _ => .no
  | _, _ => .no
def dFdiv : F2 := fun x y m => match x, y with
  | .int i, .int j => if j ≠ 0 ∧ j.natAbs < 1073741824 then .ok (.int (i.fdiv j)) m else .no
  | _, _ => .no
def dMod : F2 := fun x y m => match x, y with
  | .int i, .int j => if j ≠ 0 then .ok (.int (i.fmod j)) m else .no
  | _, _ => .no
def dPow : F2 := fun x y m => match x, y with
  | .int i, .int j => if 0 ≤ j ∧ j ≤ 1000000 ∧ i.natAbs < 2 ^ 64 then .ok (.int (i ^ j.toNat)) m else .no
  | _, _ => .no
def dXor : F2 := fun x y m => match x, y with
  | .int i, .int j => .ok (.int (Builtin.bitXor i j)) m
  | _, _ => .no
def dCmp (p : Int → Int → Bool) : F2 := fun x y m => match x, y with
  | .int i, .int j => .ok (.bl (p i j)) m
  | _, _ => .no
abbrev dLt : F2 := dCmp fun i j => decide (i < j)
abbrev dLe : F2 := dCmp fun i j => decide (i ≤ j)
abbrev dGt : F2 := dCmp fun i j => decide (j < i)
abbrev dGe : F2 := dCmp fun i j => decide (j ≤ i)
def dIsN : F2 := fun x y m => match y with
  | .non => .ok (.bl (match x with | .non => true | _ => false)) m
  | _ => .no
def dNotN : F2 := fun x y m => match y with
  | .non => .ok (.bl (match x with | .non => false | _ => true)) m
  | _ => .no
def dNeg : F1 := fun x m => match x with
  | .int i => .ok (.int (-i)) m
  | _ => .no

theorem opR_or {X : Cx} {f : Value → Value → Sem Value} {r r' : R2} (h : OpR X f r) (h' : OpR X f r') : OpR X f (fun x y H Q => r x y H Q ∨ r' x y H Q) := by
  intro pins s σ H x y v u Q I rx ry q
  rcases q with q | q
  · exact h pins s σ H x y v u Q I rx ry q
  · exact h' pins s σ H x y v u Q I rx ry q
section
variable {X : Cx} {g : Glb}
theorem cell_at {A : List Addr} {H : Hp} {mem : Mem} {n : Nat} {a : Addr} {c : Cell} (R : Rel X.K g A H mem) (h1 : A[n]? = some a) (h2 : mem[n]? = some c) : CellR X.K g A H a c := R.cell n a c h1 h2
theorem opA_add : OpA X g (binaryOp .Add) dAdd := ⟨_, opR_or op_add (opR_or op_add_str (opR_or op_catF op_cat)), fun A H mem x y dx dy Q W R rx ry p => by
  unfold dAdd at p
  cases rx <;> cases ry <;> try exact p.elim
  · exact .inl ⟨_, _, rfl, rfl, p _ A H .refl R (.int _)⟩
  · rename_i s t
    by_cases hl : s.length + t.length ≤ sizeLine
    · simp only [if_pos hl] at p
      exact .inr (.inl ⟨_, _, rfl, rfl, hl, p _ A H .refl R (.str _)⟩)
    · simp only [if_neg hl] at p; exact p.elim
  · rename_i n a ha k b hb
    dsimp only at p
    split at p
    · rename_i xs ys h1 h2
      by_cases hl : xs.length + ys.length ≤ sizeLine
      · rw [if_pos hl] at p
        obtain ⟨vs, e1, q1⟩ := cell_at R ha h1
        obtain ⟨ws, e2, q2⟩ := cell_at R hb h2
        refine .inr (.inr (.inr ⟨a, b, vs, ws, rfl, rfl, e1, e2, by rw [q1.length, q2.length]; exact hl, fun p' hp => ?_⟩))
        obtain ⟨s2, r2, e2⟩ := R.alloc (o := .lst (vs ++ ws)) (c := .lst (xs ++ ys)) hp fun s => ⟨_, upd_same, (q1.stab s).append (q2.stab s)⟩
        exact p _ _ _ s2 r2 (.ref e2)
      · rw [if_neg hl] at p; exact p.elim
    · exact p.elim
  · rename_i a vs xs ha q1 b ws ys hb q2
    by_cases hl : xs.length + ys.length ≤ sizeLine
    · simp only [if_pos hl] at p
      refine .inr (.inr (.inl ⟨a, b, vs, ws, rfl, rfl, ha.t, hb.t, by rw [q1.length, q2.length]; exact hl, fun h => ?_, fun h h' => ?_, fun _ _ p' o ho hp => ?_⟩))
      · subst h
        cases q1
        exact p _ A H .refl R (.tup hb q2)
      · subst h'
        cases q2
        rw [List.append_nil] at p
        exact p _ A H .refl R (.tup ha q1)
      · obtain ⟨s2, r2⟩ := R.new (o := .frz o (.tup (vs ++ ws))) hp
        exact p _ A _ s2 r2 (.tup (.inl ⟨o, upd_same, ho⟩) ((q1.append q2).stab s2))
    · simp only [if_neg hl] at p; exact p.elim⟩
theorem opA_sub : OpA X g (binaryOp .Sub) dSub := ⟨_, op_sub, fun A H mem x y dx dy Q W R rx ry p => by
  unfold dSub at p
  cases rx <;> cases ry <;> try exact p.elim
  exact ⟨_, _, rfl, rfl, p _ A H .refl R (.int _)⟩⟩
theorem opA_mul : OpA X g (binaryOp .Mult) dMul := ⟨_, opR_or op_mul op_rep, fun A H mem x y dx dy Q W R rx ry p => by
  unfold dMul at p
  cases rx <;> cases ry <;> try exact p.elim
  · rename_i i j
    dsimp only at p
    split at p
    · exact .inl ⟨_, _, rfl, rfl, by assumption, p _ A H .refl R (.int _)⟩
    · exact p.elim
  · rename_i n a ha k
    dsimp only at p
    split at p
    · rename_i xs h1
      split at p
      · rename_i hl
        obtain ⟨vs, e1, q1⟩ := cell_at R ha h1
        refine .inr ⟨a, k, vs, rfl, rfl, e1, hl.1, hl.2.1, by rw [q1.length]; exact hl.2.2, fun p' hp => ?_⟩
        have key : ∀ n, RepL X.K g A H (List.replicate n vs).flatten (List.replicate n xs).flatten := by
          intro n
          induction n with
          | zero => exact .nil
          | succ n ih => rw [List.replicate_succ, List.replicate_succ, List.flatten_cons, List.flatten_cons]; exact q1.append ih
        obtain ⟨s2, r2, e2⟩ := R.alloc (o := .lst (List.replicate k.toNat vs).flatten) (c := .lst (List.replicate k.toNat xs).flatten) hp fun s => ⟨_, upd_same, (key _).stab s⟩
        exact p _ _ _ s2 r2 (.ref e2)
      · exact p.elim
    · exact p.elim⟩
theorem opA_fdiv : OpA X g (binaryOp .FloorDiv) dFdiv := ⟨_, op_fdivN, fun A H mem x y dx dy Q W R rx ry p => by
  unfold dFdiv at p
  cases rx <;> cases ry <;> try exact p.elim
  dsimp only at p
  split at p
  · exact ⟨_, _, rfl, rfl, by assumption, p _ A H .refl R (.int _)⟩
  · exact p.elim⟩
theorem opA_mod : OpA X g (binaryOp .Mod) dMod := ⟨_, op_modN, fun A H mem x y dx dy Q W R rx ry p => by
  unfold dMod at p
  cases rx <;> cases ry <;> try exact p.elim
  dsimp only at p
  split at p
  · exact ⟨_, _, rfl, rfl, by assumption, p _ A H .refl R (.int _)⟩
  · exact p.elim⟩
theorem opA_pow : OpA X g (binaryOp .Pow) dPow := ⟨_, op_pow, fun A H mem x y dx dy Q W R rx ry p => by
  unfold dPow at p
  cases rx <;> cases ry <;> try exact p.elim
  dsimp only at p
  split at p
  · exact ⟨_, _, rfl, rfl, by assumption, p _ A H .refl R (.int _)⟩
  · exact p.elim⟩
theorem opA_xor : OpA X g (binaryOp .BitXor) dXor := ⟨_, op_xor, fun A H mem x y dx dy Q W R rx ry p => by
  unfold dXor at p
  cases rx <;> cases ry <;> try exact p.elim
  exact ⟨_, _, rfl, rfl, p _ A H .refl R (.int _)⟩⟩
theorem opA_cmp {op : CmpOp} {p : Int → Int → Bool} (h : OpR X (compareOp op) (rI0 fun i j => .bl (p i j))) : OpA X g (compareOp op) (dCmp p) := ⟨_, h, fun A H mem x y dx dy Q W R rx ry p => by
  unfold dCmp at p
  cases rx <;> cases ry <;> try exact p.elim
  exact ⟨_, _, rfl, rfl, p _ A H .refl R (.bl _)⟩⟩
theorem opA_lt : OpA X g (compareOp .Lt) dLt := opA_cmp op_lt
theorem opA_le : OpA X g (compareOp .LtE) dLe := opA_cmp op_le
theorem opA_gt : OpA X g (compareOp .Gt) dGt := opA_cmp op_gt
theorem opA_ge : OpA X g (compareOp .GtE) dGe := opA_cmp op_ge
theorem opA_isN : OpA X g (compareOp .Is) dIsN := ⟨_, op_isN, fun A H mem x y dx dy Q W R rx ry p => by
  unfold dIsN at p
  cases ry <;> try exact p.elim
  refine ⟨rfl, ?_⟩
  cases rx <;> exact p _ A H .refl R (by first | exact Rep.bl _ | (simp; exact Rep.bl _))⟩
theorem opA_notN : OpA X g (compareOp .IsNot) dNotN := ⟨_, op_notN, fun A H mem x y dx dy Q W R rx ry p => by
  unfold dNotN at p
  cases ry <;> try exact p.elim
  refine ⟨rfl, ?_⟩
  cases rx <;> exact p _ A H .refl R (by first | exact Rep.bl _ | (simp; exact Rep.bl _))⟩
theorem unA_neg : UnA X g (unaryOp .USub) dNeg := ⟨_, un_neg, fun A H mem x dx Q W R rx p => by
  unfold dNeg at p
  cases rx <;> try exact p.elim
  exact ⟨_, rfl, p _ A H .refl R (.int _)⟩⟩

/-! ### data at any depth -/
def toP (m : Mem) : Nat → D → Option PyData
  | _, .non => some .none
  | _, .bl b => some (.bool b)
  | _, .int i => some (.int i)
  | _, .str x => some (.str x)
  | f + 1, .tup ds => (ds.mapM (toP m f)).map .tuple
  | f + 1, .ref n => match m[n]? with
    | some (.lst ds) => (ds.mapM (toP m f)).map .list
    | some (.rol ds) => (ds.mapM (toP m f)).map .list
    | _ => none
  | _, _ => none
theorem dpAll_of {A : List Addr} {H : Hp} {f : D → Option PyData} (hf : ∀ v d p, Rep X.K g A H v d → f d = some p → Dp X.K H v p) : ∀ {vs : List V} {ds : List D} {ps : List PyData}, RepL X.K g A H vs ds → ds.mapM f = some ps → DpAll X.K H vs ps
  | _, _, ps, .nil, e => by
    rw [List.mapM_nil] at e
    cases e; exact .nil
  | _, _, ps, .cons h l, e => by
    rename_i v vs d ds
    rw [List.mapM_cons] at e
    cases e1 : f d with
    | none => rw [e1] at e; cases e
    | some q =>
      rw [e1] at e
      cases e2 : ds.mapM f with
      | none => simp [e2] at e
      | some qs =>
        simp [e2] at e
        subst e
        exact .cons (hf _ _ _ h e1) (dpAll_of hf l e2)
theorem toP_dp {A : List Addr} {H : Hp} {mem : Mem} (R : Rel X.K g A H mem) : ∀ (f : Nat) (v : V) (d : D) (p : PyData), Rep X.K g A H v d → toP mem f d = some p → Dp X.K H v p := by
  intro f
  induction f with
  | zero =>
    intro v d p r e
    cases r <;> simp [toP] at e <;> subst e <;> constructor
  | succ f ih =>
    intro v d p r e
    cases r with
    | non => simp [toP] at e; subst e; constructor
    | bl b => simp [toP] at e; subst e; constructor
    | int b => simp [toP] at e; subst e; constructor
    | str b => simp [toP] at e; subst e; constructor
    | fn b => simp [toP] at e
    | tup h l =>
      simp only [toP, Option.map_eq_some_iff] at e
      obtain ⟨ps, e1, rfl⟩ := e
      exact .tup h.t (dpAll_of ih l e1)
    | @ref n a ha =>
      simp only [toP] at e
      split at e
      · rename_i ds hm
        simp only [Option.map_eq_some_iff] at e
        obtain ⟨ps, e1, rfl⟩ := e
        obtain ⟨vs, e2, q⟩ := R.cell _ _ _ ha hm
        exact .lst (.inl (.inl e2)) (dpAll_of ih q e1)
      · rename_i ds hm
        simp only [Option.map_eq_some_iff] at e
        obtain ⟨ps, e1, rfl⟩ := e
        obtain ⟨vs, e2, q⟩ := R.cell _ _ _ ha hm
        exact .lst e2.l (dpAll_of ih q e1)
      · cases e
abbrev DEEP : Nat := 70
def dEq : F2 := fun x y m => match toP m DEEP x, toP m DEEP y with
  | some p, some q => if SeqAt.shaped p = true ∧ SeqAt.shaped q = true then .ok (.bl (PyData.eqv p q)) m else .no
  | _, _ => .no
def dNe : F2 := fun x y m => match toP m DEEP x, toP m DEEP y with
  | some p, some q => if SeqAt.shaped p = true ∧ SeqAt.shaped q = true then .ok (.bl (!PyData.eqv p q)) m else .no
  | _, _ => .no
theorem opA_eq (hu : X.A.units + 64 < cLine) : OpA X g (compareOp .Eq) dEq := ⟨_, op_eqD hu, fun A H mem x y dx dy Q W R rx ry p => by
  unfold dEq at p
  split at p
  · rename_i a b ea eb
    split at p
    · rename_i hs
      exact ⟨a, b, toP_dp R _ _ _ _ rx ea, toP_dp R _ _ _ _ ry eb, hs.1, hs.2, p _ A H .refl R (.bl _)⟩
    · exact p.elim
  · exact p.elim⟩
theorem opA_ne (hu : X.A.units + 64 < cLine) : OpA X g (compareOp .NotEq) dNe := ⟨_, op_neD hu, fun A H mem x y dx dy Q W R rx ry p => by
  unfold dNe at p
  split at p
  · rename_i a b ea eb
    split at p
    · rename_i hs
      exact ⟨a, b, toP_dp R _ _ _ _ rx ea, toP_dp R _ _ _ _ ry eb, hs.1, hs.2, p _ A H .refl R (.bl _)⟩
    · exact p.elim
  · exact p.elim⟩
end
end Ab
set_option Elab.async false
set_option linter.all false
set_option maxRecDepth 100000
namespace Ab
open PySem L2

/-! ### dicts -/
def keyD : D → Option Key
  | .int i => some (.inl i)
  | .str x => some (.inr x)
  | _ => none
def valD (kvs : List (Key × D)) (k : Key) : Option D := (kvs.find? fun kv => decide (kv.1 = k)).map (·.2)
def putD (kvs : List (Key × D)) (k : Key) (v : D) : List (Key × D) :=
  if (kvs.any fun kv => decide (kv.1 = k)) = true then kvs.map fun kv => if kv.1 = k then (kv.1, v) else kv else kvs ++ [(k, v)]
section
variable {X : Cx} {g : Glb}
theorem keyD_kV {K : PySem.W.Frag} {A : List Addr} {H : Hp} {v : V} {d : D} {k : Key} (r : Rep K g A H v d) (e : keyD d = some k) : v = kV k := by
  cases r <;> simp [keyD] at e <;> subst e <;> rfl
theorem RepP.val {K : PySem.W.Frag} {A : List Addr} {H : Hp} (k : Key) : ∀ {vs : List (Key × V)} {ds : List (Key × D)}, RepP K g A H vs ds → (valD ds k = none ∧ valV vs k = none) ∨ ∃ v d, valD ds k = some d ∧ valV vs k = some v ∧ Rep K g A H v d
  | _, _, .nil => .inl ⟨rfl, rfl⟩
  | _, _, .cons h l => by
    rename_i k' v d vs ds
    by_cases e : k' = k
    · exact .inr ⟨v, d, by simp [valD, List.find?_cons, e], by simp [valV, List.find?_cons, e], h⟩
    · have e1 : valD ((k', d) :: ds) k = valD ds k := by simp [valD, List.find?_cons, e]
      have e2 : valV ((k', v) :: vs) k = valV vs k := by simp [valV, List.find?_cons, e]
      rw [e1, e2]
      exact RepP.val k l
theorem RepP.any {K : PySem.W.Frag} {A : List Addr} {H : Hp} (k : Key) : ∀ {vs : List (Key × V)} {ds : List (Key × D)}, RepP K g A H vs ds → (ds.any fun kv => decide (kv.1 = k)) = vs.any fun kv => decide (kv.1 = k)
  | _, _, .nil => rfl
  | _, _, .cons h l => by rw [List.any_cons, List.any_cons, RepP.any k l]
theorem RepP.repl {K : PySem.W.Frag} {A : List Addr} {H : Hp} (k : Key) {y : V} {z : D} (ry : Rep K g A H y z) : ∀ {vs : List (Key × V)} {ds : List (Key × D)}, RepP K g A H vs ds → RepP K g A H (vs.map fun kv => if kv.1 = k then (kv.1, y) else kv) (ds.map fun kv => if kv.1 = k then (kv.1, z) else kv)
  | _, _, .nil => .nil
  | _, _, .cons h l => by
    rename_i k' v d vs ds
    rw [List.map_cons, List.map_cons]
    by_cases e : k' = k
    · rw [if_pos e, if_pos e]; exact .cons ry (RepP.repl k ry l)
    · rw [if_neg e, if_neg e]; exact .cons h (RepP.repl k ry l)
theorem RepP.snoc {K : PySem.W.Frag} {A : List Addr} {H : Hp} {κ : Type} {k : κ} {y : V} {z : D} (ry : Rep K g A H y z) : ∀ {vs : List (κ × V)} {ds : List (κ × D)}, RepP K g A H vs ds → RepP K g A H (vs ++ [(k, y)]) (ds ++ [(k, z)])
  | _, _, .nil => .cons ry .nil
  | _, _, .cons h l => .cons h (RepP.snoc ry l)
theorem putV_eq (kvs : List (Key × V)) (k : Key) (v : V) : putK kvs k v = if (kvs.any fun kv => decide (kv.1 = k)) = true then kvs.map fun kv => if kv.1 = k then (kv.1, v) else kv else kvs ++ [(k, v)] := by
  unfold putK
  rfl
theorem RepP.put {K : PySem.W.Frag} {A : List Addr} {H : Hp} (k : Key) {y : V} {z : D} (ry : Rep K g A H y z) {vs : List (Key × V)} {ds : List (Key × D)} (r : RepP K g A H vs ds) : RepP K g A H (putK vs k y) (putD ds k z) := by
  rw [putV_eq]
  unfold putD
  rw [r.any k]
  split
  · exact r.repl k ry
  · exact r.snoc ry

/-! ### in -/
def dIn0 (neg : Bool) : F2 := fun x y m => match y with
  | .ref n => match m[n]? with
    | some (.dic kvs) => match keyD x with
      | some k => .ok (.bl (xor neg (valD kvs k).isSome)) m
      | none => .no
    | _ => match toP m DEEP y, toP m DEEP x with
      | some (.list ps), some p => if SeqAt.shaped p = true ∧ SeqAt.shaped (.list ps) = true then .ok (.bl (xor neg (ps.any fun z => PyData.eqv z p))) m else .no
      | _, _ => .no
  | .tup _ => match toP m DEEP y, toP m DEEP x with
      | some (.tuple ps), some p => if SeqAt.shaped p = true ∧ SeqAt.shaped (.tuple ps) = true then .ok (.bl (xor neg (ps.any fun z => PyData.eqv z p))) m else .no
      | _, _ => .no
  | .str s => match x with
    | .str t => .ok (.bl (xor neg (!(Builtin.Str.occurrences s t 0 s.length 1).isEmpty))) m
    | _ => .no
  | _ => .no
abbrev dIn : F2 := dIn0 false
abbrev dNotIn : F2 := dIn0 true
def rInTD (K : PySem.W.Frag) (neg : Bool) : R2 := fun x y H Q => ∃ d ds, Dp K H x d ∧ Dp K H y (.tuple ds) ∧ SeqAt.shaped d = true ∧ SeqAt.shaped (.tuple ds) = true ∧ Q (.bl (xor neg (ds.any fun z => PyData.eqv z d))) H
theorem op_inTD (hu : X.A.units + 65 < cLine) : OpR X (compareOp .In) (rInTD X.K false) := by
  intro pins s σ H x y v u Q I rx ry h
  obtain ⟨d, ds, hd, he, sd, se, q⟩ := h
  obtain ⟨as, r1⟩ := Dp.reads I d x v hd rx
  obtain ⟨bs, r2⟩ := Dp.reads I (.tuple ds) y u he ry
  rw [Bool.false_xor] at q
  exact SeqAt.in_tuple_reads r2 r1 (SeqAt.canLay_of_shaped se) (SeqAt.canLay_of_shaped sd) (PyProof.Rows.room_in_shaped sd hu) ⟨.bl _, H, I, rfl, q⟩
theorem op_notInTD (hu : X.A.units + 65 < cLine) : OpR X (compareOp .NotIn) (rInTD X.K true) := by
  intro pins s σ H x y v u Q I rx ry h
  obtain ⟨d, ds, hd, he, sd, se, q⟩ := h
  obtain ⟨as, r1⟩ := Dp.reads I d x v hd rx
  obtain ⟨bs, r2⟩ := Dp.reads I (.tuple ds) y u he ry
  rw [Bool.true_xor] at q
  exact SeqAt.notIn_tuple_reads r2 r1 (SeqAt.canLay_of_shaped se) (SeqAt.canLay_of_shaped sd) (PyProof.Rows.room_in_shaped sd hu) ⟨.bl _, H, I, rfl, q⟩
theorem op_inDict (hu : X.A.units + 65 < cLine) : OpR X (compareOp .In) (fun y x H Q => ∃ a o, x = .ref a ∧ DGet H a y o ∧ Q (.bl o.isSome) H) := by
  intro pins s σ H x y v u Q I rx ry h
  obtain ⟨a, o, rfl, hd, q⟩ := h
  obtain rfl : u = Value.ref a := ry
  exact d_in (by omega) I hd rx fun s3 I3 => ⟨.bl o.isSome, H, I3, rfl, q⟩
theorem op_notInDict (hu : X.A.units + 65 < cLine) : OpR X (compareOp .NotIn) (fun y x H Q => ∃ a o, x = .ref a ∧ DGet H a y o ∧ Q (.bl (!o.isSome)) H) := by
  intro pins s σ H x y v u Q I rx ry h
  obtain ⟨a, o, rfl, hd, q⟩ := h
  obtain rfl : u = Value.ref a := ry
  exact d_notIn (by omega) I hd rx fun s3 I3 => ⟨.bl (!o.isSome), H, I3, rfl, q⟩
theorem opA_in (hu : X.A.units + 65 < cLine) : OpA X g (compareOp .In) dIn := ⟨_, opR_or (op_inDict hu) (opR_or (op_inD hu) (opR_or (op_inTD hu) op_in_str)), fun A H mem x y dx dy Q W R rx ry p => by
  unfold dIn dIn0 at p
  simp only [Bool.false_xor] at p
  cases ry with
  | @ref n a ha =>
    dsimp only at p
    split at p
    · rename_i kvs hm
      split at p
      · rename_i k hk
        obtain ⟨ks, e1, q1⟩ := R.cell _ _ _ ha hm
        have ex := keyD_kV rx hk
        subst ex
        refine .inl ⟨a, valV ks k, rfl, DGet.k e1, ?_⟩
        have es : (valV ks k).isSome = (valD kvs k).isSome := by
          rcases q1.val k with ⟨h1, h2⟩ | ⟨v, d, h1, h2, _⟩ <;> rw [h1, h2] <;> rfl
        rw [es]
        exact p _ A H .refl R (.bl _)
      · exact p.elim
    · split at p
      · rename_i ps q ep eq
        split at p
        · rename_i hs
          exact .inr (.inl ⟨q, ps, toP_dp R _ _ _ _ rx eq, toP_dp R _ _ _ _ (.ref ha) ep, hs.1, hs.2, p _ A H .refl R (.bl _)⟩)
        · exact p.elim
      · exact p.elim
  | tup h l =>
    dsimp only at p
    split at p
    · rename_i ps q ep eq
      split at p
      · rename_i hs
        exact .inr (.inr (.inl ⟨q, ps, toP_dp R _ _ _ _ rx eq, toP_dp R _ _ _ _ (.tup h l) ep, hs.1, hs.2, p _ A H .refl R (by rw [Bool.false_xor]; exact .bl _)⟩))
      · exact p.elim
    · exact p.elim
  | str s =>
    cases rx with
    | str t => exact .inr (.inr (.inr ⟨t, s, rfl, rfl, p _ A H .refl R (.bl _)⟩))
    | _ => exact p.elim
  | _ => exact p.elim⟩
theorem opA_notIn (hu : X.A.units + 65 < cLine) : OpA X g (compareOp .NotIn) dNotIn := ⟨_, opR_or (op_notInDict hu) (opR_or (op_notInD hu) (opR_or (op_notInTD hu) L2.op_notin_str)), fun A H mem x y dx dy Q W R rx ry p => by
  unfold dNotIn dIn0 at p
  simp only [Bool.true_xor] at p
  cases ry with
  | @ref n a ha =>
    dsimp only at p
    split at p
    · rename_i kvs hm
      split at p
      · rename_i k hk
        obtain ⟨ks, e1, q1⟩ := R.cell _ _ _ ha hm
        have ex := keyD_kV rx hk
        subst ex
        refine .inl ⟨a, valV ks k, rfl, DGet.k e1, ?_⟩
        have es : (valV ks k).isSome = (valD kvs k).isSome := by
          rcases q1.val k with ⟨h1, h2⟩ | ⟨v, d, h1, h2, _⟩ <;> rw [h1, h2] <;> rfl
        rw [es]
        exact p _ A H .refl R (.bl _)
      · exact p.elim
    · split at p
      · rename_i ps q ep eq
        split at p
        · rename_i hs
          exact .inr (.inl ⟨q, ps, toP_dp R _ _ _ _ rx eq, toP_dp R _ _ _ _ (.ref ha) ep, hs.1, hs.2, p _ A H .refl R (.bl _)⟩)
        · exact p.elim
      · exact p.elim
  | tup h l =>
    dsimp only at p
    split at p
    · rename_i ps q ep eq
      split at p
      · rename_i hs
        exact .inr (.inr (.inl ⟨q, ps, toP_dp R _ _ _ _ rx eq, toP_dp R _ _ _ _ (.tup h l) ep, hs.1, hs.2, p _ A H .refl R (by rw [Bool.true_xor]; exact .bl _)⟩))
      · exact p.elim
    · exact p.elim
  | str s =>
    cases rx with
    | str t => exact .inr (.inr (.inr ⟨t, s, rfl, rfl, p _ A H .refl R (.bl _)⟩))
    | _ => exact p.elim
  | _ => exact p.elim⟩

/-! ### subscripts -/
def dIx : F2 := fun x y m => match x with
  | .ref n => match m[n]?, y with
    | some (.lst ds), .int i => match atI ds i with
      | some d => .ok d m
      | none => .no
    | some (.rol ds), .int i => match atI ds i with
      | some d => .ok d m
      | none => .no
    | some (.dic kvs), k => match keyD k with
      | some k => match valD kvs k with
        | some d => .ok d m
        | none => .no
      | none => .no
    | _, _ => .no
  | .tup ds => match y with
    | .int i => match atI ds i with
      | some d => .ok d m
      | none => .no
    | _ => .no
  | .str s => match y with
    | .int i => if s.length ≤ sizeLine then match atI s.cps.toList i with
      | some c => .ok (.str ⟨#[c]⟩) m
      | none => .no
      else .no
    | _ => .no
  | _ => .no
theorem RepL.atI {K : PySem.W.Frag} {A : List Addr} {H : Hp} {vs : List V} {ds : List D} {i : Int} {d : D} (r : RepL K g A H vs ds) (h : atI ds i = some d) : ∃ v, L2.atI vs i = some v ∧ Rep K g A H v d := by
  unfold L2.atI at h ⊢
  rw [r.length]
  cases e : ixN ds.length i with
  | none => rw [e] at h; cases h
  | some j =>
    rw [e, Option.bind_some] at h
    rw [Option.bind_some]
    exact r.get h
theorem ix_dict (hu : X.A.units + 1 < cLine) : IxR X (fun x y H Q => ∃ a v, x = .ref a ∧ DGet H a y (some v) ∧ Q v H) := by
  intro value slice pins s σ H x y v u Q I rx ry h hs
  obtain ⟨a, z, rfl, hd, q⟩ := h
  obtain rfl : v = Value.ref a := rx
  have g1 := d_getItem (A := X.A) (E := X.xe) (Q := EP X pins σ Q) hu I hd ry fun w' s3 I3 rw' => ⟨z, H, I3, rw', q⟩
  unfold PyProof.Rows.subscriptTail
  refine wpAny_bind ?_
  rw [PySem.getitemInPython_of_ne (dict_typeIs I hd).not_modules]
  refine wpAny_bind (wpAny_specialOf (dict_typeIs I hd) PySem.F.slot_dict_getitem.lookup ?_)
  have fin : wpAny (model X.prog X.w) X.A (subscripted slice false (Value.ref a) u) (fun r s₃ => wpAny (model X.prog X.w) X.A (letTemporaryGo value (Value.ref a) r >>= fun _ => pure r) (EP X pins σ Q) X.xe s₃) X.xe s := by
    rw [hs]
    exact wpAny_operating (wpAny_mono g1 (fun r s₃ h₃ => wpAny_bind (wpAny_letTemporaryGo (wpAny_pure h₃))) fun _ _ x => x)
  first
    | exact wpAny_pure (wpAny_bind fin)
    | exact wpAny_bind (wpAny_pure (wpAny_bind fin))
    | exact wpAny_bind fin
theorem ixA (hu : X.A.units + 1 < cLine) : IxA X g dIx := ⟨_, (ix_dict hu).or ix_seq, fun A H mem x y dx dy Q W R rx ry p => by
  unfold dIx at p
  cases rx with
  | @ref n a ha =>
    dsimp only at p
    split at p
    · rename_i ds i hm
      cases ry
      obtain ⟨vs, e1, q1⟩ := R.cell _ _ _ ha hm
      split at p
      · rename_i d hd
        obtain ⟨v, e2, q2⟩ := q1.atI hd
        exact .inr (.inl ⟨a, vs, i, v, rfl, rfl, .inl (.inl e1), e2, p _ A H .refl R q2⟩)
      · exact p.elim
    · rename_i ds i hm
      cases ry
      obtain ⟨vs, e1, q1⟩ := R.cell _ _ _ ha hm
      split at p
      · rename_i d hd
        obtain ⟨v, e2, q2⟩ := q1.atI hd
        exact .inr (.inl ⟨a, vs, i, v, rfl, rfl, e1.l, e2, p _ A H .refl R q2⟩)
      · exact p.elim
    · rename_i kvs hm
      obtain ⟨ks, e1, q1⟩ := R.cell _ _ _ ha hm
      split at p
      · rename_i k hk
        have ey := keyD_kV ry hk
        subst ey
        split at p
        · rename_i d hd
          rcases q1.val k with ⟨h1, h2⟩ | ⟨v, d', h1, h2, h3⟩
          · rw [h1] at hd; cases hd
          · rw [h1] at hd; cases hd
            exact .inl ⟨a, v, rfl, by rw [← h2]; exact DGet.k e1, p _ A H .refl R h3⟩
        · exact p.elim
      · exact p.elim
    · exact p.elim
  | tup h l =>
    dsimp only at p
    split at p
    · cases ry
      split at p
      · rename_i d hd
        obtain ⟨v, e2, q2⟩ := l.atI hd
        exact .inr (.inr (.inl ⟨_, _, _, v, rfl, rfl, h.t, e2, p _ A H .refl R q2⟩))
      · exact p.elim
    · exact p.elim
  | str s =>
    dsimp only at p
    split at p
    · cases ry
      split at p
      · rename_i hl
        split at p
        · rename_i c hc
          exact .inr (.inr (.inr ⟨_, _, c, rfl, rfl, hl, hc, p _ A H .refl R (.str _)⟩))
        · exact p.elim
      · exact p.elim
    · exact p.elim
  | _ => exact p.elim⟩

/-! ### slices -/
abbrev AO := Env' → Mem → R (Option Int)
structure SO (X : Cx) (g : Glb) (γ : Gam) (e : Option Expr) (a : AO) : Prop where
  out : ∀ W : WX, Takes X W → ∃ t : TO, PO X e t ∧ ∀ σ env A H mem Q, γ.Ok A → EnvR X.K g A H σ env → Rel X.K g A H mem → Post X.K g (fun _ _ => Eq) A H (a env mem) Q (fun c d H' => W c d σ H') → t σ H Q
def oNone : AO := fun _ m => .ok none m
def oSome (a : AE) : AO := fun env m => (a env m).bind fun d m => match d with
  | .int i => .ok (some i) m
  | _ => .no
theorem so_none {γ : Gam} : SO X g γ none oNone := ⟨fun W tk => ⟨_, po_none, fun σ env A H mem Q hg he hr hp => hp none A H .refl hr rfl⟩⟩
theorem so_some {γ : Gam} {e : Expr} {a : AE} (h : SE X g γ e a) : SO X g γ (some e) (oSome a) := ⟨fun W tk => by
  obtain ⟨t, p, q⟩ := h.out W tk
  refine ⟨_, po_some p, fun σ env A H mem Q hg he hr hp => ?_⟩
  refine q σ env A H mem _ hg he hr (hp.bnd fun v A1 H1 d m s1 r1 rv p1 => ?_)
  cases rv with
  | int i => exact ⟨i, rfl, p1 _ A1 H1 .refl r1 rfl⟩
  | _ => exact p1.elim⟩
def cutD {α : Type} (xs : List α) (lo hi : Option Int) : List α := (xs.drop (HT.sIx xs.length 0 lo)).take (HT.sIx xs.length xs.length hi - HT.sIx xs.length 0 lo)
def dSl (x : D) (lo hi : Option Int) (m : Mem) : R D := match x with
  | .ref n => match m[n]? with
    | some (.lst ds) => .ok (.ref m.length) (m ++ [.lst (cutD ds lo hi)])
    | some (.rol ds) => .ok (.ref m.length) (m ++ [.lst (cutD ds lo hi)])
    | _ => .no
  | .tup ds => .ok (.tup (cutD ds lo hi)) m
  | _ => .no
def eSl (a : AE) (lo hi : AO) : AE := fun env m => (a env m).bind fun x m => (lo env m).bind fun l m => (hi env m).bind fun h m => dSl x l h m
theorem RepL.cut {K : PySem.W.Frag} {A : List Addr} {H : Hp} {vs : List V} {ds : List D} (r : RepL K g A H vs ds) (lo hi : Option Int) : RepL K g A H (cutV vs lo hi) (cutD ds lo hi) := by
  unfold cutV cutD
  rw [r.length]
  exact (r.drop _).take _
theorem cutV_all {vs : List V} {lo hi : Option Int} (h : HT.sIx vs.length 0 lo = 0 ∧ HT.sIx vs.length vs.length hi = vs.length) : cutV vs lo hi = vs := by
  unfold cutV
  rw [h.1, h.2]; simp
theorem se_sl {γ : Gam} {e : Expr} {lo hi : Option Expr} {a : AE} {l h : AO} {p2 pos : Pos} (he : SE X g γ e a) (hl : SO X g γ lo l) (hh : SO X g γ hi h) : SE X g γ (.Subscript e (.Slice lo hi none p2) pos) (eSl a l h) := ⟨fun W tk => by
  obtain ⟨ta, pa, qa⟩ := he.out W tk
  obtain ⟨tl, pl, ql⟩ := hl.out W tk
  obtain ⟨th, ph, qh⟩ := hh.out W tk
  refine ⟨_, pe_slice (sl_list.or sl_tupF) pa pl ph, fun σ env A H mem Q hg he hr hp => ?_⟩
  refine qa σ env A H mem _ hg he hr (hp.bnd fun v A1 H1 d m s1 r1 rv p1 => ?_)
  refine ql σ env A1 H1 m _ (hg.pre s1.pre) (he.stab s1) r1 (p1.bnd fun l' A2 H2 d2 m2 s2 r2 rl p2 => ?_)
  refine qh σ env A2 H2 m2 _ (hg.pre (s1.trans s2).pre) (he.stab (s1.trans s2)) r2 (p2.bnd fun h' A3 H3 d3 m3 s3 r3 rh p3 => ?_)
  subst rl rh
  have rv3 := rv.stab (s2.trans s3)
  unfold dSl at p3
  cases rv3 with
  | @ref n a ha =>
    dsimp only at p3
    split at p3
    · rename_i ds hm
      obtain ⟨vs, e1, q1⟩ := r3.cell _ _ _ ha hm
      refine .inl ⟨a, vs, rfl, .inl (.inl e1), fun p' hp' => ?_⟩
      obtain ⟨s4, r4, e4⟩ := r3.alloc (o := .lst (cutV vs l' h')) (c := .lst (cutD ds l' h')) hp' fun s => ⟨_, upd_same, (q1.cut _ _).stab s⟩
      exact p3 _ _ _ s4 r4 (.ref e4)
    · rename_i ds hm
      obtain ⟨vs, e1, q1⟩ := r3.cell _ _ _ ha hm
      refine .inl ⟨a, vs, rfl, e1.l, fun p' hp' => ?_⟩
      obtain ⟨s4, r4, e4⟩ := r3.alloc (o := .lst (cutV vs l' h')) (c := .lst (cutD ds l' h')) hp' fun s => ⟨_, upd_same, (q1.cut _ _).stab s⟩
      exact p3 _ _ _ s4 r4 (.ref e4)
    · exact p3.elim
  | @tup a vs ds h l =>
    refine .inr ⟨a, vs, rfl, h.t, fun hw => ?_, fun hw p' o ho hp' => ?_⟩
    · refine p3 _ A3 H3 .refl r3 (.tup h ?_)
      have q := l.cut l' h'
      rw [cutV_all hw] at q
      exact q
    · obtain ⟨s4, r4⟩ := r3.new (o := .frz o (.tup (cutV vs l' h'))) hp'
      exact p3 _ A3 _ s4 r4 (.tup (.inl ⟨o, upd_same, ho⟩) ((l.cut _ _).stab s4))
  | _ => exact p3.elim⟩
end
end Ab
set_option Elab.async false
set_option linter.all false
set_option maxRecDepth 100000
namespace Ab
open PySem L2

/-! ### one reading for all contexts -/
def rdE (K : PySem.W.Frag) (g : Glb) (γ : Gam) (a : AE) (W : WX) : TE := fun σ H Q => ∃ env A mem, γ.Ok A ∧ EnvR K g A H σ env ∧ Rel K g A H mem ∧ Post K g (Rep K g) A H (a env mem) Q (fun c d H' => W c d σ H')
theorem SE.uni {X : Cx} {g : Glb} {γ : Gam} {e : Expr} {a : AE} (h : SE X g γ e a) {W : WX} (tk : Takes X W) : PE X e (rdE X.K g γ a W) := ⟨fun pins s σ H Q I hq => by
  obtain ⟨t, p, q⟩ := h.out W tk
  obtain ⟨env, A, mem, h1, h2, h3, h4⟩ := hq
  exact p.run pins s σ H Q I (q σ env A H mem Q h1 h2 h3 h4)⟩
def rdT (K : PySem.W.Frag) (g : Glb) (γ : Gam) (a : AT) (W : WX) : TT := fun σ H Q => ∃ env A mem, γ.Ok A ∧ EnvR K g A H σ env ∧ Rel K g A H mem ∧ Post K g (fun _ _ => Eq) A H (a env mem) Q (fun c d H' => W c d σ H')
theorem ST.uni {X : Cx} {g : Glb} {γ : Gam} {e : Expr} {a : AT} (h : ST X g γ e a) {W : WX} (tk : Takes X W) : PT X e (rdT X.K g γ a W) := ⟨fun pins s σ H Q I hq => by
  obtain ⟨t, p, q⟩ := h.out W tk
  obtain ⟨env, A, mem, h1, h2, h3, h4⟩ := hq
  exact p.run pins s σ H Q I (q σ env A H mem Q h1 h2 h3 h4)⟩

/-! ### targets -/
abbrev AG := D → Env' → Mem → R Env'
/-- the slots outside ws stay -/
def Frm (ws : List Nat) (σ σ' : L2.St) : Prop := σ'.length = σ.length ∧ ∀ i, i ∉ ws → σ'[i]? = σ[i]?
theorem Frm.refl {ws : List Nat} {σ : L2.St} : Frm ws σ σ := ⟨rfl, fun _ _ => rfl⟩
def rlG (K : PySem.W.Frag) (g : Glb) (ws : List Nat) (σ : L2.St) : List Addr → Hp → L2.St → Env' → Prop := fun A H σ' env' => EnvR K g A H σ' env' ∧ Frm ws σ σ'
structure SG (X : Cx) (g : Glb) (γ : Gam) (ws : List Nat) (e : Expr) (a : AG) : Prop where
  out : ∀ W : WX, Takes X W → ∃ t : TG, PG X e t ∧ ∀ v d σ env A H mem Q, γ.Ok A → EnvR X.K g A H σ env → Rel X.K g A H mem → Rep X.K g A H v d → Post X.K g (rlG X.K g ws σ) A H (a d env mem) Q (fun c d H' => W c d σ H') → t v σ H Q
def rdG (K : PySem.W.Frag) (g : Glb) (γ : Gam) (ws : List Nat) (a : AG) (W : WX) : TG := fun v σ H Q => ∃ d env A mem, γ.Ok A ∧ EnvR K g A H σ env ∧ Rel K g A H mem ∧ Rep K g A H v d ∧ Post K g (rlG K g ws σ) A H (a d env mem) Q (fun c d H' => W c d σ H')
theorem SG.uni {X : Cx} {g : Glb} {γ : Gam} {ws : List Nat} {e : Expr} {a : AG} (h : SG X g γ ws e a) {W : WX} (tk : Takes X W) : PG X e (rdG X.K g γ ws a W) := ⟨fun pins s σ H v u Q I r hq => by
  obtain ⟨t, p, q⟩ := h.out W tk
  obtain ⟨d, env, A, mem, h1, h2, h3, h5, h4⟩ := hq
  exact p.run pins s σ H v u Q I r (q v d σ env A H mem Q h1 h2 h3 h5 h4)⟩
def gN (i : Nat) : AG := fun d env m => .ok (env.set i (some d)) m
def gT (n : Nat) (t : List D → Env' → Mem → R Env') : AG := fun d env m => match d with
  | .tup ds => if ds.length = n then (match t ds env m with
    | .ok e2 m2 => .ok e2 m2
    | _ => .no) else .no
  | _ => .no
abbrev AGs := List D → Env' → Mem → R Env'
def gsNil : AGs := fun ds env m => match ds with
  | [] => .ok env m
  | _ => .no
/-- within a tuple no store may raise -/
def gsCons (t : AG) (u : AGs) : AGs := fun ds env m => match ds with
  | d :: r => match t d env m with
    | .ok env' m' => match u r env' m' with
      | .ok e2 m2 => .ok e2 m2
      | _ => .no
    | _ => .no
  | [] => .no
structure SGs (X : Cx) (g : Glb) (γ : Gam) (ws : List Nat) (es : List Expr) (a : AGs) : Prop where
  out : ∀ W : WX, Takes X W → ∃ t : TGs, PGs X es t ∧ ∀ vs ds σ env A H mem Q, γ.Ok A → EnvR X.K g A H σ env → Rel X.K g A H mem → RepL X.K g A H vs ds → Post X.K g (rlG X.K g ws σ) A H (a ds env mem) Q (fun _ _ _ => False) → t vs σ H Q
section
variable {X : Cx} {g : Glb} {γ : Gam} {pos : Pos} {ws ws1 ws2 : List Nat}
theorem sg_name (i : Nat) {x : Str} (hN : X.N.Nodup) (hi : X.N[i]? = some x := by rfl) (hx : Loc X.env.scope x := by first | exact Or.inl rfl | exact Or.inr rfl) (hf : X.fn x = true ∨ X.env.scope.names.lookup x = some .local := by first | exact .inl rfl | exact .inr rfl | assumption) (hw : i ∈ ws := by decide) : SG X g γ ws (.Name x pos) (gN i) :=
  ⟨fun W tk => ⟨_, pg_name hN hi hx hf, fun v d σ env A H mem Q hg he hr rv hp => by
    refine hp (σ.set i (some v)) A H .refl hr ⟨he.set i rv, by simp, fun j hj => ?_⟩
    rw [List.getElem?_set_ne]
    intro z
    exact hj (by rw [← z]; exact hw)⟩⟩
theorem sgs_nil : SGs X g γ ws [] gsNil := ⟨fun W tk => ⟨_, pgs_nil, fun vs ds σ env A H mem Q hg he hr rv hp => by
  unfold gsNil at hp
  cases rv with
  | nil => exact ⟨rfl, hp σ A H .refl hr ⟨he, .refl⟩⟩
  | cons _ _ => exact hp.elim⟩⟩
theorem sgs_cons {e : Expr} {es : List Expr} {t : AG} {u : AGs} (h1 : SG X g γ ws e t) (h2 : SGs X g γ ws es u)
    (hs : (assignEach (e :: es) X.env).map (·.2) = assign e X.env :: (assignEach es X.env).map (·.2) := by rfl) : SGs X g γ ws (e :: es) (gsCons t u) := ⟨fun W tk => by
  obtain ⟨t1, p1, q1⟩ := h1.out W tk
  obtain ⟨t2, p2, q2⟩ := h2.out W tk
  refine ⟨_, pgs_cons p1 p2 hs, fun vs ds σ env A H mem Q hg he hr rv hp => ?_⟩
  cases rv with
  | nil => exact hp.elim
  | cons r1 r2 =>
    rename_i v vs d ds
    refine ⟨v, vs, rfl, ?_⟩
    unfold gsCons at hp
    dsimp only at hp
    cases e1 : t d env mem with
    | er x m => rw [e1] at hp; exact hp.elim
    | no => rw [e1] at hp; exact hp.elim
    | ok env' m' =>
      rw [e1] at hp
      dsimp only at hp
      cases e2 : u ds env' m' with
      | er x m => rw [e2] at hp; exact hp.elim
      | no => rw [e2] at hp; exact hp.elim
      | ok env2 m2 =>
        rw [e2] at hp
        refine q1 v d σ env A H mem _ hg he hr r1 ?_
        rw [e1]
        intro σ1 A1 H1 s1 R1 ⟨E1, F1⟩
        refine q2 vs ds σ1 env' A1 H1 m' _ (hg.pre s1.pre) E1 R1 (r2.stab s1) ?_
        rw [e2]
        intro σ2 A2 H2 s2 R2 ⟨E2, F2⟩
        exact hp σ2 A2 H2 (s1.trans s2) R2 ⟨E2, F2.1.trans F1.1, fun i hi => (F2.2 i hi).trans (F1.2 i hi)⟩⟩
theorem sg_tup {es : List Expr} {k : Nat} {t : AGs} {n : Nat} (hc : X.calm = true) (h : SGs X g γ ws es t)
    (hn : (assignEach es X.env).length = n := by rfl) (hst : (assignEach es X.env).findIdx? (·.1) = none := by rfl) : SG X g γ ws (.Tuple es k pos) (gT n t) := ⟨fun W tk => by
  obtain ⟨t1, p1, q1⟩ := h.out W tk
  refine ⟨_, pg_tup hc p1 hn hst, fun v d σ env A H mem Q hg he hr rv hp => ?_⟩
  unfold gT at hp
  cases rv with
  | @tup a vs ds h l =>
    dsimp only at hp
    split at hp
    · rename_i hl
      refine ⟨a, vs, rfl, h.t, by rw [l.length]; exact hl, q1 vs ds σ env A H mem Q hg he hr l ?_⟩
      cases e1 : t ds env mem with
      | ok e2 m2 => rw [e1] at hp; exact hp
      | no => rw [e1] at hp; exact hp
      | er x m => rw [e1] at hp; exact hp.elim
    · exact hp.elim
  | _ => exact hp.elim⟩

/-! stores -/
structure StA (X : Cx) (g : Glb) (F : D → D → D → Mem → R Unit) : Prop where
  out : ∃ t : TSet, PSet X t ∧ ∀ A H mem o i v d1 d2 d3 Q, Rel X.K g A H mem → Rep X.K g A H o d1 → Rep X.K g A H i d2 → Rep X.K g A H v d3 → Post X.K g (fun _ _ (_ _ : Unit) => True) A H (F d1 d2 d3 mem) (fun _ H => Q H) (fun _ _ _ => False) → t o i v H Q
def dSet (x i v : D) (m : Mem) : R Unit := match x with
  | .ref n => match m[n]?, i with
    | some (.lst ds), .int k => match ixN ds.length k with
      | some j => .ok () (m.set n (.lst (ds.set j v)))
      | none => .no
    | some (.dic kvs), k => match keyD k with
      | some k => if kvs.length < sizeLine then .ok () (m.set n (.dic (putD kvs k v))) else .no
      | none => .no
    | _, _ => .no
  | _ => .no
theorem pset_or {r r' : TSet} (h : PSet X r) (h' : PSet X r') : PSet X (fun o i v H Q => r o i v H Q ∨ r' o i v H Q) := by
  intro pins s σ H o i v ov iv u Q I ro ri rv q
  rcases q with q | q
  · exact h pins s σ H o i v ov iv u Q I ro ri rv q
  · exact h' pins s σ H o i v ov iv u Q I ro ri rv q
theorem set_dict (hu : X.A.units + 1 < cLine) : PSet X (fun o i v H Q => ∃ a H', o = .ref a ∧ DPut H a i v H' ∧ Q H') := by
  intro pins s σ H o i v ov iv u Q I ro ri rv h
  obtain ⟨a, H', rfl, hd, q⟩ := h
  obtain rfl : ov = Value.ref a := ro
  exact d_setItem hu I hd ri rv fun s4 I4 => ⟨H', I4, q⟩
theorem stA (hu : X.A.units + 1 < cLine) : StA X g dSet := ⟨_, pset_or set_list (set_dict hu), fun A H mem o i v d1 d2 d3 Q R ro ri rv p => by
  unfold dSet at p
  cases ro with
  | @ref n a ha =>
    dsimp only at p
    split at p
    · rename_i ds k hm
      cases ri
      obtain ⟨vs, e1, q1⟩ := R.cell _ _ _ ha hm
      split at p
      · rename_i j hj
        refine .inl ⟨a, vs, k, j, rfl, rfl, e1, by rw [q1.length]; exact hj, ?_⟩
        obtain ⟨s2, r2⟩ := R.write (o' := .lst (vs.set j v)) (c' := .lst (ds.set j d3)) hm ha rfl rfl fun s => ⟨_, upd_same, (q1.stab s).set j (rv.stab s)⟩
        exact p () _ _ s2 r2 True.intro
      · exact p.elim
    · rename_i kvs hm
      obtain ⟨ks, e1, q1⟩ := R.cell _ _ _ ha hm
      split at p
      · rename_i k hk
        have ey := keyD_kV ri hk
        subst ey
        split at p
        · rename_i hl
          refine .inr ⟨a, _, rfl, DPut.k e1 (by rw [q1.length]; exact hl), ?_⟩
          obtain ⟨s2, r2⟩ := R.write (o' := .dK (putK ks k v)) (c' := .dic (putD kvs k d3)) hm ha rfl rfl fun s => ⟨_, upd_same, (q1.stab s).put k (rv.stab s)⟩
          exact p () _ _ s2 r2 True.intro
        · exact p.elim
      · exact p.elim
    · exact p.elim
  | _ => exact p.elim⟩
def gS (F : D → D → D → Mem → R Unit) (o i : AE) : AG := fun v env m => (o env m).bind fun x m => (i env m).bind fun y m => match F x y v m with
  | .ok _ m => .ok env m
  | _ => .no
theorem sg_sub {F : D → D → D → Mem → R Unit} {o i : Expr} {io ii : AE} (hs : StA X g F) (ho : SE X g γ o io) (hi : SE X g γ i ii)
    (ha : ∀ v, assign (.Subscript o i pos) X.env v = (do
      let ov ← holding [v] (eval o X.env)
      let iv ← holding [v, ov] (eval i X.env)
      standAt pos
      holding [v, ov, iv] (setItem ov iv v)
      release [v, ov, iv] []) := by intro _; rfl) : SG X g γ ws (.Subscript o i pos) (gS F io ii) := ⟨fun W tk => by
  obtain ⟨ts, ps, qs⟩ := hs.out
  obtain ⟨to, po, qo⟩ := ho.out W tk
  obtain ⟨ti, pi, qi⟩ := hi.out W tk
  refine ⟨_, pg_sub po pi ps ha, fun v d σ env A H mem Q hg he hr rv hp => ?_⟩
  refine qo σ env A H mem _ hg he hr (hp.bnd fun x A1 H1 dx m s1 r1 rx p1 => ?_)
  refine qi σ env A1 H1 m _ (hg.pre s1.pre) (he.stab s1) r1 (p1.bnd fun y A2 H2 dy m2 s2 r2 ry p2 => ?_)
  refine qs A2 H2 m2 x y v dx dy d _ r2 (rx.stab s2) ry (rv.stab (s1.trans s2)) ?_
  cases e : F dx dy d m2 with
  | ok u m3 =>
    rw [e] at p2
    exact fun _ A3 H3 s3 r3 _ => p2 σ A3 H3 s3 r3 ⟨he.stab (s1.trans (s2.trans s3)), .refl⟩
  | er x m => rw [e] at p2; exact p2.elim
  | no => rw [e] at p2; exact p2.elim⟩
end

/-! ### statements -/
inductive O where
  | nx (e : Env') (m : Mem)
  | rt (d : D) (m : Mem)
  | bk (e : Env') (m : Mem)
  | ct (e : Env') (m : Mem)
  | er (x : Ex) (e : Env') (m : Mem)
  | no
abbrev AS := Env' → Mem → O
def R.o {α : Type} (r : R α) (env : Env') (k : α → Mem → O) : O := match r with
  | .ok a m => k a m
  | .er x m => .er x env m
  | .no => .no
def O.seq (o : O) (k : AS) : O := match o with
  | .nx e m => k e m
  | o => o
def PostS (K : PySem.W.Frag) (g : Glb) (A : List Addr) (H : Hp) (o : O) (E : Ends) (W : WX) : Prop := match o with
  | .nx e m => ∀ σ A' H', Stab K A H A' H' → Rel K g A' H' m → EnvR K g A' H' σ e → E.nx σ H'
  | .rt d m => ∀ v A' H', Stab K A H A' H' → Rel K g A' H' m → Rep K g A' H' v d → E.rt v H'
  | .bk e m => ∀ σ A' H', Stab K A H A' H' → Rel K g A' H' m → EnvR K g A' H' σ e → E.bk σ H'
  | .ct e m => ∀ σ A' H', Stab K A H A' H' → Rel K g A' H' m → EnvR K g A' H' σ e → E.ct σ H'
  | .er x e m => ∀ c dd σ A' H', Stab K A H A' H' → Rel K g A' H' m → EnvR K g A' H' σ e → ExR g A' x c dd → W c dd σ H'
  | .no => False
theorem PostS.up {K : PySem.W.Frag} {g : Glb} {A A' : List Addr} {H H' : Hp} {o : O} {E : Ends} {W : WX} (s : Stab K A H A' H') (p : PostS K g A H o E W) : PostS K g A' H' o E W := by
  cases o with
  | nx e m => exact fun σ A2 H2 s2 r2 e2 => p σ A2 H2 (s.trans s2) r2 e2
  | rt e m => exact fun σ A2 H2 s2 r2 e2 => p σ A2 H2 (s.trans s2) r2 e2
  | bk e m => exact fun σ A2 H2 s2 r2 e2 => p σ A2 H2 (s.trans s2) r2 e2
  | ct e m => exact fun σ A2 H2 s2 r2 e2 => p σ A2 H2 (s.trans s2) r2 e2
  | er x e m => exact fun c dd σ A2 H2 s2 r2 e2 => p c dd σ A2 H2 (s.trans s2) r2 e2
  | no => exact p
/-- an expression, then what stands behind it -/
theorem PostS.of {K : PySem.W.Frag} {g : Glb} {α β : Type} {rl : List Addr → Hp → β → α → Prop} {A : List Addr} {H : Hp} {r : R α} {env : Env'} {k : α → Mem → O} {E : Ends} {W : WX} {Q : β → Hp → Prop} {σ : L2.St} (he : EnvR K g A H σ env)
    (p : PostS K g A H (r.o env k) E W) (h : ∀ v A' H' d m, Stab K A H A' H' → Rel K g A' H' m → rl A' H' v d → PostS K g A' H' (k d m) E W → Q v H') : Post K g rl A H r Q (fun c d H' => W c d σ H') := by
  cases r with
  | ok d m => exact fun v A2 H2 s2 r2 e2 => h v A2 H2 d m s2 r2 e2 (p.up s2)
  | er x m => exact fun c dd A2 H2 s2 r2 e2 => p c dd σ A2 H2 s2 r2 (he.stab s2) e2
  | no => exact p.elim
structure SS (X : Cx) (g : Glb) (γ : Gam) (st : Stmt) (a : AS) : Prop where
  out : ∀ W : WX, Takes X W → ∃ t : TS, PS X st t ∧ ∀ σ env A H mem E, γ.Ok A → EnvR X.K g A H σ env → Rel X.K g A H mem → PostS X.K g A H (a env mem) E W → t E σ H
structure SSs (X : Cx) (g : Glb) (γ : Gam) (sts : List Stmt) (a : AS) : Prop where
  out : ∀ W : WX, Takes X W → ∃ t : TS, PSs X sts t ∧ ∀ σ env A H mem E, γ.Ok A → EnvR X.K g A H σ env → Rel X.K g A H mem → PostS X.K g A H (a env mem) E W → t E σ H
def rdS (K : PySem.W.Frag) (g : Glb) (γ : Gam) (a : AS) (W : WX) : TS := fun E σ H => ∃ env A mem, γ.Ok A ∧ EnvR K g A H σ env ∧ Rel K g A H mem ∧ PostS K g A H (a env mem) E W
theorem SSs.uni {X : Cx} {g : Glb} {γ : Gam} {e : List Stmt} {a : AS} (h : SSs X g γ e a) {W : WX} (tk : Takes X W) : PSs X e (rdS X.K g γ a W) := ⟨fun pins s σ H Q I hq => by
  obtain ⟨t, p, q⟩ := h.out W tk
  obtain ⟨env, A, mem, h1, h2, h3, h4⟩ := hq
  exact p.run pins s σ H Q I (q σ env A H mem Q h1 h2 h3 h4)⟩
def sSeq (a b : AS) : AS := fun e m => (a e m).seq b
def sSkip : AS := fun e m => .nx e m
def sAsg (a : AE) (t : AG) : AS := fun e m => (a e m).o e fun d m => (t d e m).o e fun e m => .nx e m
def sRet (a : AE) : AS := fun e m => (a e m).o e fun d m => .rt d m
def sRetN : AS := fun _ m => .rt .non m
def sExp (a : AE) : AS := fun e m => (a e m).o e fun _ m => .nx e m
def sIf (c : AT) (a b : AS) : AS := fun e m => (c e m).o e fun k m => if k = true then a e m else b e m
def sBrk : AS := fun e m => .bk e m
def sCnt : AS := fun e m => .ct e m
def whileN (c : AT) (b : AS) : Nat → AS
  | 0 => fun _ _ => .no
  | n + 1 => fun e m => (c e m).o e fun k m => if k = true then (match b e m with
    | .nx e m => whileN c b n e m
    | .ct e m => whileN c b n e m
    | .bk e m => .nx e m
    | .rt d m => .rt d m
    | .er x e m => .er x e m
    | .no => .no) else .nx e m
open Classical in
noncomputable def sWhile (c : AT) (b : AS) : AS := fun e m => if h : ∃ n, whileN c b n e m ≠ .no then whileN c b (Classical.choose h) e m else .no
section
variable {X : Cx} {g : Glb} {γ : Gam} {pos : Pos}
theorem sss_nil : SSs X g γ [] sSkip := ⟨fun W tk => ⟨_, pss_nil, fun σ env A H mem E hg he hr hp => hp σ A H .refl hr he⟩⟩
theorem sss_one {st : Stmt} {a : AS} (h : SS X g γ st a) : SSs X g γ [st] a := ⟨fun W tk => by obtain ⟨t, p, q⟩ := h.out W tk; exact ⟨t, pss_one p, q⟩⟩
theorem sss_cons {st : Stmt} {rest : List Stmt} {a b : AS} (h1 : SS X g γ st a) (h2 : SSs X g γ rest b) : SSs X g γ (st :: rest) (sSeq a b) := ⟨fun W tk => by
  obtain ⟨t, p, q⟩ := h1.out W tk
  obtain ⟨u, p2, q2⟩ := h2.out W tk
  refine ⟨_, pss_cons p p2, fun σ env A H mem E hg he hr hp => ?_⟩
  refine q σ env A H mem _ hg he hr ?_
  unfold sSeq O.seq at hp
  cases e : a env mem with
  | nx e2 m2 =>
    rw [e] at hp
    exact fun σ2 A2 H2 s2 r2 e2' => q2 σ2 e2 A2 H2 m2 E (hg.pre s2.pre) e2' r2 (hp.up s2)
  | rt d m => rw [e] at hp; exact hp
  | bk d m => rw [e] at hp; exact hp
  | ct d m => rw [e] at hp; exact hp
  | er x d m => rw [e] at hp; exact hp
  | no => rw [e] at hp; exact hp⟩
theorem ss_asg {ws : List Nat} {tg e : Expr} {a : AE} {t : AG} (he : SE X g γ e a) (ht : SG X g γ ws tg t) (hs : swapsWithSole [tg] e pos.line X.env = pure false := by rfl) (hw : swappedStores [tg] e X.env = pure none := by rfl) (h1 : (assignEach [tg] X.env).map (·.2) = [assign tg X.env] := by rfl) : SS X g γ (.Assign [tg] e pos) (sAsg a t) := ⟨fun W tk => by
  obtain ⟨t1, p1, q1⟩ := he.out W tk
  obtain ⟨t2, p2, q2⟩ := ht.out W tk
  refine ⟨_, ps_asg p1 p2 hs hw h1, fun σ env A H mem E hg he hr hp => ?_⟩
  refine q1 σ env A H mem _ hg he hr (PostS.of (rl := Rep X.K g) he hp fun v A1 H1 d m s1 r1 rv p => ?_)
  refine q2 v d σ env A1 H1 m _ (hg.pre s1.pre) (he.stab s1) r1 rv (PostS.of (he.stab s1) p fun σ2 A2 H2 e2 m2 s2 r2 rv2 p2 => ?_)
  exact p2 σ2 A2 H2 .refl r2 rv2.1⟩
theorem ss_ret {e : Expr} {a : AE} (he : SE X g γ e a) : SS X g γ (.Return (some e) pos) (sRet a) := ⟨fun W tk => by
  obtain ⟨t1, p1, q1⟩ := he.out W tk
  refine ⟨_, ps_ret p1, fun σ env A H mem E hg he hr hp => ?_⟩
  exact q1 σ env A H mem _ hg he hr (PostS.of (rl := Rep X.K g) he hp fun v A1 H1 d m s1 r1 rv p => p v A1 H1 .refl r1 rv)⟩
theorem ss_retN : SS X g γ (.Return none pos) sRetN := ⟨fun W tk => ⟨_, ps_retN, fun σ env A H mem E hg he hr hp => hp .non A H .refl hr .non⟩⟩
theorem ss_exp {e : Expr} {a : AE} (he : SE X g γ e a) (hs : swapsWith e none pos.line X.env = pure false := by rfl) : SS X g γ (.Expr e pos) (sExp a) := ⟨fun W tk => by
  obtain ⟨t1, p1, q1⟩ := he.out W tk
  refine ⟨_, ps_expr p1 hs, fun σ env A H mem E hg he hr hp => ?_⟩
  exact q1 σ env A H mem _ hg he hr (PostS.of (rl := Rep X.K g) he hp fun v A1 H1 d m s1 r1 rv p => p σ A1 H1 .refl r1 (he.stab s1))⟩
theorem ss_if {c : Expr} {a b : List Stmt} {t : AT} {ia ib : AS} (hc : ST X g γ c t) (ha : SSs X g γ a ia) (hb : SSs X g γ b ib) : SS X g γ (.If c a b pos) (sIf t ia ib) := ⟨fun W tk => by
  obtain ⟨tc, pc, qc⟩ := hc.out W tk
  obtain ⟨ta, pa, qa⟩ := ha.out W tk
  obtain ⟨tb, pb, qb⟩ := hb.out W tk
  refine ⟨_, ps_if pc pa pb, fun σ env A H mem E hg he hr hp => ?_⟩
  refine qc σ env A H mem _ hg he hr (PostS.of he hp fun v A1 H1 d m s1 r1 rv p => ?_)
  subst rv
  cases v with
  | true => exact qa σ env A1 H1 m _ (hg.pre s1.pre) (he.stab s1) r1 p
  | false => exact qb σ env A1 H1 m _ (hg.pre s1.pre) (he.stab s1) r1 p⟩
theorem ss_pass : SS X g γ (.Pass pos) sSkip := ⟨fun W tk => ⟨_, ps_pass, fun σ env A H mem E hg he hr hp => hp σ A H .refl hr he⟩⟩
theorem ss_brk : SS X g γ (.Break pos) sBrk := ⟨fun W tk => ⟨_, ps_break, fun σ env A H mem E hg he hr hp => hp σ A H .refl hr he⟩⟩
theorem ss_cnt : SS X g γ (.Continue pos) sCnt := ⟨fun W tk => ⟨_, ps_continue, fun σ env A H mem E hg he hr hp => hp σ A H .refl hr he⟩⟩
theorem whileN_mono {c : AT} {b : AS} : ∀ (n : Nat) (e : Env') (m : Mem), whileN c b n e m ≠ .no → ∀ k, whileN c b (n + k) e m = whileN c b n e m := by
  intro n
  induction n with
  | zero => intro e m h; exact absurd rfl h
  | succ n ih =>
    intro e m h k
    rw [Nat.succ_add]
    unfold whileN at h ⊢
    cases hc : c e m with
    | er x m1 => rw [hc] at h; rfl
    | no => rfl
    | ok b1 m1 =>
      rw [hc] at h
      unfold R.o at h ⊢
      dsimp only at h ⊢
      cases b1 with
      | false => rfl
      | true =>
        rw [if_pos rfl] at h ⊢
        rw [if_pos rfl]
        cases hb : b e m1 with
        | nx e2 m2 => rw [hb] at h; exact ih e2 m2 h k
        | ct e2 m2 => rw [hb] at h; exact ih e2 m2 h k
        | bk e2 m2 => rfl
        | rt d m2 => rfl
        | er x e2 m2 => rfl
        | no => rfl
theorem sWhile_of {c : AT} {b : AS} {n : Nat} {e : Env'} {m : Mem} {o : O} (h : whileN c b n e m = o) (ho : o ≠ .no) : sWhile c b e m = o := by
  have hx : ∃ n, whileN c b n e m ≠ .no := ⟨n, by rw [h]; exact ho⟩
  unfold sWhile
  rw [dif_pos hx]
  have h1 := Classical.choose_spec hx
  have h2 := whileN_mono _ e m h1 n
  have h3 := whileN_mono n e m (by rw [h]; exact ho) (Classical.choose hx)
  rw [← h, ← h3, Nat.add_comm, h2]
theorem ss_while {c : Expr} {body : List Stmt} {t : AT} {b : AS} (hp : PassesOwn (model X.prog X.w) X.A X.env X.xe) (hc : ST X g γ c t) (hb : SSs X g γ body b) : SS X g γ (.While c body [] pos) (sWhile t b) := ⟨fun W tk => by
  obtain ⟨tc, pc, qc⟩ := hc.out W tk
  obtain ⟨tb, pb, qb⟩ := hb.out W tk
  refine ⟨_, ps_while hp pc pb, fun σ env A H mem E hg he hr hp => ?_⟩
  refine ⟨fun n σ H => ∃ env A mem, γ.Ok A ∧ EnvR X.K g A H σ env ∧ Rel X.K g A H mem ∧ PostS X.K g A H (whileN t b n env mem) E W, ?_, ?_⟩
  · unfold sWhile at hp
    split at hp
    · rename_i hx
      exact ⟨_, env, A, mem, hg, he, hr, hp⟩
    · exact hp.elim
  · rintro n σ H ⟨env, A, mem, hg, he, hr, hp⟩
    cases n with
    | zero => exact hp.elim
    | succ n =>
      unfold whileN at hp
      refine qc σ env A H mem _ hg he hr (PostS.of he hp fun v A1 H1 d m s1 r1 rv p => ?_)
      subst rv
      cases v with
      | false => rw [if_neg Bool.false_ne_true] at p ⊢; exact p σ A1 H1 .refl r1 (he.stab s1)
      | true =>
        rw [if_pos rfl] at p
        rw [if_pos rfl]
        refine ⟨fun σ' H' => ∃ env A mem, γ.Ok A ∧ EnvR X.K g A H' σ' env ∧ Rel X.K g A H' mem ∧ PostS X.K g A H' (whileN t b n env mem) E W, fun σ' H' h => ⟨n, Nat.lt_succ_self n, h⟩, ?_⟩
        have hg1 := hg.pre s1.pre
        refine qb σ env A1 H1 m _ hg1 (he.stab s1) r1 ?_
        cases e : b env m with
        | nx e2 m2 => rw [e] at p; exact fun σ2 A2 H2 s2 r2 e2' => ⟨e2, A2, m2, hg1.pre s2.pre, e2', r2, p.up s2⟩
        | ct e2 m2 => rw [e] at p; exact fun σ2 A2 H2 s2 r2 e2' => ⟨e2, A2, m2, hg1.pre s2.pre, e2', r2, p.up s2⟩
        | bk e2 m2 => rw [e] at p; exact p
        | rt d m2 => rw [e] at p; exact p
        | er x e2 m2 => rw [e] at p; exact p
        | no => rw [e] at p; exact p⟩
end
end Ab
set_option Elab.async false
set_option linter.all false
set_option maxRecDepth 100000
namespace Ab
open PySem L2
abbrev Gd := List (Nat × Cell)
def Gd.Ok (gd : Gd) (m : Mem) : Prop := ∀ p ∈ gd, m[p.1]? = some p.2
abbrev AI := Env' → Mem → R (List D × Gd)
/-- what is walked: its items, as long as its cells stand -/
def ItR (K : PySem.W.Frag) (g : Glb) (A : List Addr) (H : Hp) (J : It) (p : List D × Gd) : Prop := ∀ (i : Nat) (A1 : List Addr) (H1 : Hp) (m1 : Mem), Stab K A H A1 H1 → Rel K g A1 H1 m1 → p.2.Ok m1 →
  (∀ d, p.1[i]? = some d → J.go i H1 ∧ ∀ x H2, J.yld i H1 x H2 → ∃ A2, Stab K A1 H1 A2 H2 ∧ Rel K g A2 H2 m1 ∧ Rep K g A2 H2 x d) ∧ (p.1.length ≤ i → J.stop p.1.length H1)
structure SI (X : Cx) (g : Glb) (γ : Gam) (tg iter : Expr) (a : AI) : Prop where
  out : ∀ W : WX, Takes X W → ∃ wi : TI, PI X tg iter wi ∧ ∀ σ env A H mem (Q : It → Hp → Prop), γ.Ok A → EnvR X.K g A H σ env → Rel X.K g A H mem → Post X.K g (ItR X.K g) A H (a env mem) Q (fun c d H' => W c d σ H') → wi σ H Q
open Classical in
noncomputable def forL (tg : AG) (b : AS) (gd : Gd) : List D → AS
  | [] => fun e m => if gd.Ok m then .nx e m else .no
  | d :: r => fun e m => if gd.Ok m then (tg d e m).o e fun e2 m2 => (match b e2 m2 with
    | .nx e m => forL tg b gd r e m
    | .ct e m => forL tg b gd r e m
    | .bk e m => .nx e m
    | .rt d m => .rt d m
    | .er x e m => .er x e m
    | .no => .no) else .no
noncomputable def sFor (it : AI) (tg : AG) (b : AS) : AS := fun e m => (it e m).o e fun p m => forL tg b p.2 p.1 e m
section
variable {X : Cx} {g : Glb} {γ : Gam} {pos : Pos}
theorem ss_for {ws : List Nat} {tg iter : Expr} {body : List Stmt} {ai : AI} {t : AG} {b : AS} (hp : PassesOwn (model X.prog X.w) X.A X.env X.xe) (hc : X.calm = true) (hi : SI X g γ tg iter ai) (ht : SG X g γ ws tg t) (hb : SSs X g γ body b)
    (hs : ∀ x, foldedSetIterable iter X.env x = pure x := by intro _; rfl) : SS X g γ (.For tg iter body [] pos) (sFor ai t b) := ⟨fun W tk => by
  obtain ⟨wi, pi, qi⟩ := hi.out W tk
  obtain ⟨tt, pt, qt⟩ := ht.out W tk
  obtain ⟨tb, pb, qb⟩ := hb.out W tk
  refine ⟨_, ps_for hp hc pi pt pb hs, fun σ env A H mem E hg he hr hpo => ?_⟩
  refine qi σ env A H mem _ hg he hr (PostS.of he hpo fun J A1 H1 p m s1 r1 itr p1 => ?_)
  obtain ⟨items, gd⟩ := p
  refine ⟨fun i n σ H => n = items.length - i ∧ i ≤ items.length ∧ ∃ env A mem, Stab X.K A1 H1 A H ∧ γ.Ok A ∧ EnvR X.K g A H σ env ∧ Rel X.K g A H mem ∧ PostS X.K g A H (forL t b gd (items.drop i) env mem) E W, ⟨items.length, by simp, Nat.zero_le _, env, A1, m, .refl, hg.pre s1.pre, he.stab s1, r1, p1⟩, ?_⟩
  rintro i n σ H ⟨rfl, hi, env, A, mem, s, hg, he, hr, hp⟩
  by_cases hlt : i < items.length
  · have hd : items.drop i = items[i] :: items.drop (i + 1) := List.drop_eq_getElem_cons hlt
    rw [hd] at hp
    unfold forL at hp
    split at hp
    · rename_i ok
      obtain ⟨go, _⟩ := itr i A H mem s hr ok
      obtain ⟨go, yl⟩ := go items[i] (List.getElem?_eq_getElem hlt)
      refine .inr ⟨go, fun σ' H' => ∃ env A mem, Stab X.K A1 H1 A H' ∧ γ.Ok A ∧ EnvR X.K g A H' σ' env ∧ Rel X.K g A H' mem ∧ PostS X.K g A H' (forL t b gd (items.drop (i + 1)) env mem) E W, fun σ' H' ⟨env, A, mem, h⟩ => ⟨items.length - (i + 1), by omega, rfl, hlt, env, A, mem, h⟩, fun x H2 hy => ?_⟩
      obtain ⟨A2, s2, r2, rx⟩ := yl x H2 hy
      refine qt x items[i] σ env A2 H2 mem _ (hg.pre s2.pre) (he.stab s2) r2 rx (PostS.of (he.stab s2) (hp.up s2) fun σ3 A3 H3 e3 m3 s3 r3 rv3 p3 => ?_)
      have hg3 := hg.pre (s2.trans s3).pre
      have st3 := s.trans (s2.trans s3)
      refine qb σ3 e3 A3 H3 m3 _ hg3 rv3.1 r3 ?_
      cases e : b e3 m3 with
      | nx e4 m4 => rw [e] at p3; exact fun σ4 A4 H4 s4 r4 e4' => ⟨e4, A4, m4, st3.trans s4, hg3.pre s4.pre, e4', r4, p3.up s4⟩
      | ct e4 m4 => rw [e] at p3; exact fun σ4 A4 H4 s4 r4 e4' => ⟨e4, A4, m4, st3.trans s4, hg3.pre s4.pre, e4', r4, p3.up s4⟩
      | bk e4 m4 => rw [e] at p3; exact p3
      | rt d m4 => rw [e] at p3; exact p3
      | er x e4 m4 => rw [e] at p3; exact p3
      | no => rw [e] at p3; exact p3
    · exact hp.elim
  · have e : i = items.length := by omega
    subst e
    rw [List.drop_length] at hp
    unfold forL at hp
    split at hp
    · rename_i ok
      obtain ⟨_, st⟩ := itr items.length A H mem s hr ok
      exact .inl ⟨st (Nat.le_refl _), hp σ A H .refl hr he⟩
    · exact hp.elim⟩

/-! ### what is walked -/
theorem pi_or {tg iter : Expr} {w1 w2 : TI} (h1 : PI X tg iter w1) (h2 : PI X tg iter w2) : PI X tg iter (fun σ H R => w1 σ H R ∨ w2 σ H R) := ⟨fun pins s σ H R I h => by
  rcases h with h | h
  · exact h1.run pins s σ H R I h
  · exact h2.run pins s σ H R I h⟩
def itD (d : D) (m : Mem) : R (List D × Gd) := match d with
  | .tup ds => .ok (ds, []) m
  | .ref n => match m[n]? with
    | some (.lst ds) => .ok (ds, [(n, .lst ds)]) m
    | some (.rol ds) => .ok (ds, [(n, .rol ds)]) m
    | _ => .no
  | .str s => .ok (s.cps.toList.map fun c => .str ⟨#[c]⟩, []) m
  | _ => .no
def iE (a : AE) : AI := fun e m => (a e m).bind itD
theorem itr_list {A : List Addr} {H : Hp} {n : Nat} {a : Addr} {ds : List D} {c : Cell} (ha : A[n]? = some a) (hc : c = .lst ds ∨ c = .rol ds) : ItR X.K g A H (Itl X.K a) (ds, [(n, c)]) := fun i A1 H1 m1 s1 r1 ok => by
  have hm : m1[n]? = some c := ok (n, c) (List.mem_singleton.mpr rfl)
  have ha1 := pre_get s1.pre ha
  have hcr := r1.cell _ _ _ ha1 hm
  obtain ⟨vs, hl, q⟩ : ∃ vs, SqL X.K H1 a vs ∧ RepL X.K g A1 H1 vs ds := by
    rcases hc with rfl | rfl
    · obtain ⟨vs, e, q⟩ := hcr; exact ⟨vs, .inl (.inl e), q⟩
    · obtain ⟨vs, e, q⟩ := hcr; exact ⟨vs, e.l, q⟩
  refine ⟨fun d hd => ?_, fun hle => ⟨vs, hl, by rw [q.length]; exact Nat.le_refl _⟩⟩
  obtain ⟨v, hv, rv⟩ := q.get hd
  refine ⟨⟨vs, v, hl, hv⟩, fun x H2 ⟨e, y⟩ => ?_⟩
  subst e
  have hx := y vs hl
  rw [hv] at hx
  cases hx
  exact ⟨A1, .refl, r1, rv⟩
theorem itr_tup {A : List Addr} {H : Hp} {a : Addr} {vs : List V} {ds : List D} (hs : SqN X.K H a vs) (q : RepL X.K g A H vs ds) : ItR X.K g A H (Itt X.K a) (ds, []) := fun i A1 H1 m1 s1 r1 ok => by
  have hl := s1.tup _ _ hs
  have q := q.stab s1
  refine ⟨fun d hd => ?_, fun hle => ⟨vs, hl.t, by rw [q.length]; exact Nat.le_refl _⟩⟩
  obtain ⟨v, hv, rv⟩ := q.get hd
  refine ⟨⟨vs, v, hl.t, hv⟩, fun x H2 ⟨e, y⟩ => ?_⟩
  subst e
  have hx := y vs hl.t
  rw [hv] at hx
  cases hx
  exact ⟨A1, .refl, r1, rv⟩
/-- for x in e -/
theorem si_e {tg e : Expr} {a : AE} (h : SE X g γ e a) : SI X g γ tg e (iE a) := ⟨fun W tk => by
  obtain ⟨t, p, q⟩ := h.out W tk
  refine ⟨_, pi_or (pi_list p) (pi_or (pi_tup p) (pi_str p)), fun σ env A H mem Q hg he hr hp => ?_⟩
  unfold iE at hp
  cases e1 : a env mem with
  | er x m =>
    rw [e1] at hp
    exact .inl (q σ env A H mem _ hg he hr (by rw [e1]; exact hp))
  | no => rw [e1] at hp; exact hp.elim
  | ok d m =>
    rw [e1] at hp
    change Post X.K g (ItR X.K g) A H (itD d m) Q _ at hp
    unfold itD at hp
    cases d with
    | tup ds =>
      refine .inr (.inl (q σ env A H mem _ hg he hr ?_))
      rw [e1]
      intro v A1 H1 s1 r1 rv
      cases rv with
      | tup hs l => exact ⟨_, rfl, ⟨_, hs.t⟩, hp _ A1 H1 s1 r1 (itr_tup hs l)⟩
    | ref n =>
      dsimp only at hp
      refine .inl (q σ env A H mem _ hg he hr ?_)
      rw [e1]
      intro v A1 H1 s1 r1 rv
      cases rv with
      | @ref _ a ha =>
        split at hp
        · rename_i ds hm
          obtain ⟨vs, e2, q2⟩ := r1.cell _ _ _ ha hm
          exact ⟨a, rfl, ⟨vs, .inl (.inl e2)⟩, hp _ A1 H1 s1 r1 (itr_list ha (.inl rfl))⟩
        · rename_i ds hm
          obtain ⟨vs, e2, q2⟩ := r1.cell _ _ _ ha hm
          exact ⟨a, rfl, ⟨vs, e2.l⟩, hp _ A1 H1 s1 r1 (itr_list ha (.inr rfl))⟩
        · exact hp.elim
    | str s =>
      refine .inr (.inr (q σ env A H mem _ hg he hr ?_))
      rw [e1]
      intro v A1 H1 s1 r1 rv
      cases rv with
      | str =>
        refine ⟨s, rfl, hp _ A1 H1 s1 r1 fun i A2 H2 m2 s2 r2 ok => ⟨fun d hd => ?_, fun _ => ?_⟩⟩
        · rw [List.getElem?_map] at hd
          cases hc : s.cps.toList[i]? with
          | none => rw [hc] at hd; cases hd
          | some c =>
            rw [hc] at hd
            cases hd
            have hl : i < s.cps.size := by
              have := (List.getElem?_eq_some_iff.mp hc).1
              simpa using this
            refine ⟨hl, fun x H3 y => ?_⟩
            obtain ⟨e, c', hc', ex⟩ := y
            subst e
            have : c' = c := by
              have h3 : s.cps[i]? = some c := by simpa using hc
              rw [h3] at hc'
              exact (Option.some.inj hc').symm
            subst this
            subst ex
            exact ⟨A2, .refl, r2, .str _⟩
        · show s.cps.size ≤ _
          simp
    | _ => exact hp.elim⟩

@[irreducible] def rng1 (ds : List D) (m : Mem) : R (List D × Gd) := match ds with
  | [.int j] => if -(2 ^ 62) ≤ j ∧ j < 2 ^ 62 then .ok ((List.range j.toNat).map fun (i : Nat) => .int (i : Int), []) m else .no
  | _ => .no
@[irreducible] def rng2 (ds : List D) (m : Mem) : R (List D × Gd) := match ds with
  | [.int i, .int j] => if -(2 ^ 62) ≤ i ∧ i < 2 ^ 62 ∧ -(2 ^ 62) ≤ j ∧ j < 2 ^ 62 then .ok ((List.range (j - i).toNat).map fun (k : Nat) => .int (i + (k : Int)), []) m else .no
  | _ => .no
def iA (f : List D → Mem → R (List D × Gd)) (a : AA) : AI := fun e m => (a e m).bind f
theorem itr_rng {A : List Addr} {H : Hp} {lo : Int} {n : Nat} {f : Nat → D} (hf : ∀ i : Nat, f i = .int (lo + i)) : ItR X.K g A H (Itr lo n) ((List.range n).map f, []) := fun i A1 H1 m1 s1 r1 ok => by
  refine ⟨fun d hd => ?_, fun hle => ?_⟩
  · rw [List.getElem?_map] at hd
    cases hc : (List.range n)[i]? with
    | none => rw [hc] at hd; cases hd
    | some c =>
      rw [hc] at hd
      cases hd
      obtain ⟨hl, e⟩ := List.getElem?_eq_some_iff.mp hc
      have e' : c = i := by simpa using e.symm
      subst e'
      have hl' : c < n := by simpa using hl
      refine ⟨hl', fun x H3 y => ?_⟩
      obtain ⟨e, ex⟩ := y
      subst e
      subst ex
      rw [hf]
      exact ⟨A1, .refl, r1, .int _⟩
  · show n ≤ _
    simp
theorem si_range1 {tg a : Expr} {p : Pos} {aa : AA} (hm : X.mg "range" = none) (ha : SA X g γ [a] aa) (hg : L2.Gl X "range" := by rfl) (hs : starEach [a] X.env = [(false, eval a X.env)] := by rfl) : SI X g γ tg (.Call (.Name "range" p) [a] [] pos) (iA rng1 aa) := ⟨fun W tk => by
  obtain ⟨t, pa, q⟩ := ha.out W tk
  refine ⟨_, pi_range1 hg hm pa hs, fun σ env A H mem Q hg he hr hp => ?_⟩
  refine q σ env A H mem _ hg he hr (hp.bnd fun vs A1 H1 ds m s1 r1 rv p1 => ?_)
  unfold rng1 at p1
  split at p1
  · rename_i j
    cases rv with
    | cons h1 h2 =>
      cases h2; cases h1
      split at p1
      · rename_i hb
        exact ⟨j, rfl, hb.1, hb.2, p1 _ A1 H1 .refl r1 (itr_rng fun i => by simp)⟩
      · exact p1.elim
  · exact p1.elim⟩
theorem si_range2 {tg a b : Expr} {p : Pos} {aa : AA} (hm : X.mg "range" = none) (ha : SA X g γ [a, b] aa) (hg : L2.Gl X "range" := by rfl) (hs : starEach [a, b] X.env = [(false, eval a X.env), (false, eval b X.env)] := by rfl) (hs2 : starEach [b] X.env = [(false, eval b X.env)] := by rfl) : SI X g γ tg (.Call (.Name "range" p) [a, b] [] pos) (iA rng2 aa) := ⟨fun W tk => by
  obtain ⟨t, pa, q⟩ := ha.out W tk
  refine ⟨_, pi_range2 hg hm pa hs hs2, fun σ env A H mem Q hg he hr hp => ?_⟩
  refine q σ env A H mem _ hg he hr (hp.bnd fun vs A1 H1 ds m s1 r1 rv p1 => ?_)
  unfold rng2 at p1
  split at p1
  · rename_i i j
    cases rv with
    | cons h1 h2 => cases h2 with
      | cons h3 h4 =>
        cases h4; cases h1; cases h3
        split at p1
        · rename_i hb
          exact ⟨i, j, rfl, hb, p1 _ A1 H1 .refl r1 (itr_rng fun i => by simp)⟩
        · exact p1.elim
  · exact p1.elim⟩
/-! pairs made on the way -/
def enumD (ds : List D) : List D := ds.zipIdx.map fun p => .tup [.int (p.2 : Int), p.1]
def enm (ds : List D) (m : Mem) : R (List D × Gd) := match ds with
  | [.str _] => .no
  | [d] => (itD d m).bind fun p m => .ok (enumD p.1, p.2) m
  | _ => .no
def zipD (xs ys : List D) : List D := (xs.zip ys).map fun p => .tup [p.1, p.2]
def zpp (ds : List D) (m : Mem) : R (List D × Gd) := match ds with
  | [.str _, _] => .no
  | [_, .str _] => .no
  | [d, e] => (itD d m).bind fun p m => (itD e m).bind fun q m => .ok (zipD p.1 q.1, p.2 ++ q.2) m
  | _ => .no
theorem enumD_get {ds : List D} {i : Nat} {d : D} (h : (enumD ds)[i]? = some d) : ∃ x, ds[i]? = some x ∧ d = .tup [.int (i : Int), x] := by
  unfold enumD at h
  rw [List.getElem?_map, List.getElem?_zipIdx] at h
  cases e : ds[i]? with
  | none => rw [e] at h; cases h
  | some x =>
    rw [e] at h
    simp at h
    exact ⟨x, rfl, h.symm⟩
theorem enumD_len {ds : List D} : (enumD ds).length = ds.length := by simp [enumD]
theorem zipD_get {xs ys : List D} {i : Nat} {d : D} (h : (zipD xs ys)[i]? = some d) : ∃ x y, xs[i]? = some x ∧ ys[i]? = some y ∧ d = .tup [x, y] := by
  unfold zipD at h
  rw [List.getElem?_map] at h
  cases e : (xs.zip ys)[i]? with
  | none => rw [e] at h; cases h
  | some p =>
    rw [e] at h
    cases h
    obtain ⟨h1, h2⟩ := List.getElem?_zip_eq_some.mp e
    exact ⟨p.1, p.2, h1, h2, rfl⟩
theorem zipD_len {xs ys : List D} : (zipD xs ys).length = min xs.length ys.length := by simp [zipD]
theorem rep_pair {A : List Addr} {H : Hp} {T : Addr} {o : Obj} {x y : V} {dx dy : D} {m : Mem} (hn : H T = none) (ho : o.dict = none) (r : Rel X.K g A H m) (rx : Rep X.K g A H x dx) (ry : Rep X.K g A H y dy) : Stab X.K A H A (upd H T (.frz o (.tup [x, y]))) ∧ Rel X.K g A (upd H T (.frz o (.tup [x, y]))) m ∧ Rep X.K g A (upd H T (.frz o (.tup [x, y]))) (.ref T) (.tup [dx, dy]) := by
  obtain ⟨s2, r2⟩ := r.new (o := .frz o (.tup [x, y])) hn
  exact ⟨s2, r2, .tup (.inl ⟨o, upd_same, ho⟩) (.cons (rx.stab s2) (.cons (ry.stab s2) .nil))⟩
/-- a list or a tuple that may be walked: its items as long as its cell stands -/
theorem src_of {A : List Addr} {H : Hp} {v : V} {d : D} {m m2 : Mem} {ds : List D} {gd : Gd} (r : Rel X.K g A H m) (rv : Rep X.K g A H v d) (hs : ∀ s, d ≠ .str s) (h : itD d m = .ok (ds, gd) m2) : m2 = m ∧ gd.Ok m ∧ ∃ b a, v = .ref a ∧ ∀ A1 H1 m1, Stab X.K A H A1 H1 → Rel X.K g A1 H1 m1 → gd.Ok m1 → ∃ vs, SqB X.K b H1 a vs ∧ RepL X.K g A1 H1 vs ds := by
  unfold itD at h
  cases rv with
  | @tup a vs ds' hn l =>
    cases h
    exact ⟨rfl, (fun p hp => by cases hp), true, a, rfl, fun A1 H1 m1 s1 r1 ok => ⟨vs, (s1.tup _ _ hn).t, l.stab s1⟩⟩
  | @ref n a ha =>
    dsimp only at h
    split at h
    · rename_i ds' hm
      cases h
      refine ⟨rfl, fun p hp => by rw [List.mem_singleton.mp hp]; exact hm, false, a, rfl, fun A1 H1 m1 s1 r1 ok => ?_⟩
      obtain ⟨vs, e, q⟩ := r1.cell _ _ _ (pre_get s1.pre ha) (ok _ (List.mem_singleton.mpr rfl))
      exact ⟨vs, .inl (.inl e), q⟩
    · rename_i ds' hm
      cases h
      refine ⟨rfl, fun p hp => by rw [List.mem_singleton.mp hp]; exact hm, false, a, rfl, fun A1 H1 m1 s1 r1 ok => ?_⟩
      obtain ⟨vs, e, q⟩ := r1.cell _ _ _ (pre_get s1.pre ha) (ok _ (List.mem_singleton.mpr rfl))
      exact ⟨vs, e.l, q⟩
    · cases h
  | str s => exact absurd rfl (hs s)
  | _ => cases h
theorem si_enum {e : Expr} {p tpos : Pos} {elts : List Expr} {kk : Nat} {aa : AA} (hm : X.mg "enumerate" = none) (ha : SA X g γ [e] aa) (hg : L2.Gl X "enumerate" := by rfl) (hs : starEach [e] X.env = [(false, eval e X.env)] := by rfl) : SI X g γ (.Tuple elts kk tpos) (.Call (.Name "enumerate" p) [e] [] pos) (iA enm aa) := ⟨fun W tk => by
  obtain ⟨t, pa, q⟩ := ha.out W tk
  refine ⟨_, pi_enumB hg hm pa hs, fun σ env A H mem Q hg he hr hp => ?_⟩
  refine q σ env A H mem _ hg he hr (hp.bnd fun vs A1 H1 ds m s1 r1 rv p1 => ?_)
  unfold enm at p1
  split at p1
  · exact p1.elim
  · rename_i d hd
    cases rv with
    | cons h1 h2 =>
      cases h2
      cases e1 : itD d m with
      | er x m2 => exfalso; unfold itD at e1; split at e1 <;> first | cases e1 | (split at e1 <;> cases e1)
      | no => rw [e1] at p1; exact p1.elim
      | ok pr m2 =>
        rw [e1] at p1
        obtain ⟨ds', gd⟩ := pr
        obtain ⟨rfl, ok0, b, a, rfl, src⟩ := src_of r1 h1 (fun s z => hd s (by rw [z])) e1
        obtain ⟨vs0, hq0, l0⟩ := src A1 H1 _ .refl r1 ok0
        refine ⟨b, a, vs0, rfl, hq0, p1 _ A1 H1 .refl r1 fun i A2 H2 m2 s2 r2 ok => ?_⟩
        obtain ⟨vs, hl, q⟩ := src A2 H2 m2 s2 r2 ok
        refine ⟨fun d hd => ?_, fun hle => ⟨vs, hl, by rw [q.length, enumD_len]⟩⟩
        obtain ⟨x, hx, rfl⟩ := enumD_get hd
        obtain ⟨v, hv, rv⟩ := q.get hx
        refine ⟨⟨vs, v, hl, hv⟩, fun y H3 hy => ?_⟩
        obtain ⟨T, o, z, rfl, hn, ho, rfl, hz⟩ := hy
        have e := hz vs hl
        rw [hv] at e
        cases e
        exact ⟨A2, rep_pair hn ho r2 (.int _) rv⟩
  · exact p1.elim⟩
theorem gdok_app {a b : Gd} {m : Mem} : Gd.Ok (a ++ b) m ↔ a.Ok m ∧ b.Ok m := ⟨fun h => ⟨fun p hp => h p (List.mem_append_left _ hp), fun p hp => h p (List.mem_append_right _ hp)⟩, fun h p hp => (List.mem_append.mp hp).elim (h.1 p) (h.2 p)⟩
theorem si_zip {e e2 : Expr} {p tpos : Pos} {elts : List Expr} {kk : Nat} {aa : AA} (hm : X.mg "zip" = none) (ha : SA X g γ [e, e2] aa) (hg : L2.Gl X "zip" := by rfl) (hs : starEach [e, e2] X.env = (false, eval e X.env) :: starEach [e2] X.env := by rfl) (hpl : (backTo pos (starEach [e2] X.env)).any (·.1) = false := by rfl) :
    SI X g γ (.Tuple elts kk tpos) (.Call (.Name "zip" p) [e, e2] [] pos) (iA zpp aa) := ⟨fun W tk => by
  obtain ⟨t, pa, q⟩ := ha.out W tk
  refine ⟨_, pi_zipB hg hm pa hs hpl, fun σ env A H mem Q hg he hr hp => ?_⟩
  refine q σ env A H mem _ hg he hr (hp.bnd fun vs A1 H1 ds m s1 r1 rv p1 => ?_)
  unfold zpp at p1
  split at p1
  · exact p1.elim
  · exact p1.elim
  · rename_i d1 d2 n1 n2
    cases rv with
    | cons h1 h2 => cases h2 with
      | cons h2 h3 =>
        cases h3
        cases e1 : itD d1 m with
        | er x m2 => exfalso; unfold itD at e1; split at e1 <;> first | cases e1 | (split at e1 <;> cases e1)
        | no => rw [e1] at p1; exact p1.elim
        | ok pr m2 =>
          rw [e1] at p1
          obtain ⟨ds1, gd1⟩ := pr
          obtain ⟨rfl, ok1, b1, a1, rfl, src1⟩ := src_of r1 h1 (fun s z => n1 s (by rw [z])) e1
          dsimp only [R.bind] at p1
          cases e2 : itD d2 m2 with
          | er x m3 => exfalso; unfold itD at e2; split at e2 <;> first | cases e2 | (split at e2 <;> cases e2)
          | no => rw [e2] at p1; exact p1.elim
          | ok pr m3 =>
            rw [e2] at p1
            obtain ⟨ds2, gd2⟩ := pr
            obtain ⟨rfl, ok2, b2, a2, rfl, src2⟩ := src_of r1 h2 (fun s z => n2 s (by rw [z])) e2
            obtain ⟨vs1, hq1, l1⟩ := src1 A1 H1 _ .refl r1 ok1
            obtain ⟨vs2, hq2, l2⟩ := src2 A1 H1 _ .refl r1 ok2
            refine ⟨b1, b2, a1, a2, vs1, vs2, rfl, hq1, hq2, p1 _ A1 H1 .refl r1 fun i A2 H2 m2 s2 r2 ok => ?_⟩
            obtain ⟨k1, k2⟩ := gdok_app.mp ok
            obtain ⟨vs1, hl1, q1⟩ := src1 A2 H2 m2 s2 r2 k1
            obtain ⟨vs2, hl2, q2⟩ := src2 A2 H2 m2 s2 r2 k2
            refine ⟨fun d hd => ?_, fun hle => ⟨vs1, vs2, hl1, hl2, ?_, ?_, ?_⟩⟩
            · obtain ⟨x, y, hx, hy, rfl⟩ := zipD_get hd
              obtain ⟨v, hv, rv⟩ := q1.get hx
              obtain ⟨w, hw, rw'⟩ := q2.get hy
              refine ⟨⟨vs1, vs2, v, w, hl1, hl2, hv, hw⟩, fun z H3 hz => ?_⟩
              obtain ⟨T, o, x', y', rfl, hn, ho, rfl, hx', hy'⟩ := hz
              have e3 := hx' vs1 hl1
              have e4 := hy' vs2 hl2
              rw [hv] at e3
              rw [hw] at e4
              cases e3; cases e4
              exact ⟨A2, rep_pair hn ho r2 rv rw'⟩
            · rw [zipD_len, q1.length]; exact Nat.min_le_left _ _
            · rw [zipD_len, q2.length]; exact Nat.min_le_right _ _
            · dsimp only; rw [zipD_len, q1.length, q2.length]; omega
  · exact p1.elim⟩
end
end Ab
set_option Elab.async false
set_option linter.all false
set_option maxRecDepth 100000
namespace Ab
open PySem L2

/-! ### comprehensions -/
def wipeE (e : Env') : List Nat → Env'
  | [] => e
  | v :: vs => (wipeE e vs).set v none
open Classical in
noncomputable def lcL (tg : AG) (tt : AT) (el : AE) (gd : Gd) (env : Env') (p0 : Nat) : List D → Mem → R Unit
  | [], m => if gd.Ok m then .ok () m else .no
  | d :: r, m => if gd.Ok m then (match tg d env m with
    | .ok e2 m2 => match tt e2 m2 with
      | .ok b m3 => if b = true then (match el e2 m3 with
        | .ok x m4 => match m4[p0]? with
          | some (.lst acc) => if acc.length < sizeLine then lcL tg tt el gd env p0 r (m4.set p0 (.lst (acc ++ [x]))) else .no
          | _ => .no
        | _ => .no) else lcL tg tt el gd env p0 r m3
      | _ => .no
    | _ => .no) else .no
noncomputable def eLc (it : AI) (tg : AG) (tt : AT) (el : AE) (vs : List Nat) : AE := fun e m => (it e m).bind fun p m =>
  match lcL tg tt el p.2 (wipeE e vs) m.length p.1 (m ++ [.lst []]) with
  | .ok _ m2 => .ok (.ref m.length) m2
  | _ => .no
def tYesA : AT := fun _ m => .ok true m
structure STs (X : Cx) (g : Glb) (γ : Gam) (es : List Expr) (a : AT) : Prop where
  out : ∀ W : WX, Takes X W → ∃ t : TT, PTs X es t ∧ ∀ σ env A H mem Q, γ.Ok A → EnvR X.K g A H σ env → Rel X.K g A H mem → Post X.K g (fun _ _ => Eq) A H (a env mem) Q (fun c d H' => W c d σ H') → t σ H Q
theorem STs.uni {X : Cx} {g : Glb} {γ : Gam} {e : List Expr} {a : AT} (h : STs X g γ e a) {W : WX} (tk : Takes X W) : PTs X e (rdT X.K g γ a W) := ⟨fun pins s σ H Q I hq => by
  obtain ⟨t, p, q⟩ := h.out W tk
  obtain ⟨env, A, mem, h1, h2, h3, h4⟩ := hq
  exact p.run pins s σ H Q I (q σ env A H mem Q h1 h2 h3 h4)⟩
theorem sts_nil {X : Cx} {g : Glb} {γ : Gam} : STs X g γ [] tYesA := ⟨fun W tk => ⟨_, pts_nil, fun σ env A H mem Q hg he hr hp => hp true A H .refl hr rfl⟩⟩
theorem sts_one {X : Cx} {g : Glb} {γ : Gam} {c : Expr} {a : AT} (h : ST X g γ c a) : STs X g γ [c] a := ⟨fun W tk => by obtain ⟨t, p, q⟩ := h.out W tk; exact ⟨_, pts_one p, q⟩⟩
theorem wipeE_r {K : PySem.W.Frag} {g : Glb} {A : List Addr} {H : Hp} {σ : L2.St} {env : Env'} (e : EnvR K g A H σ env) : ∀ vs : List Nat, EnvR K g A H (wipe σ vs) (wipeE env vs)
  | [] => e
  | v :: vs => by
    unfold wipe wipeE
    exact (wipeE_r e vs).drop v none
theorem wipe_get {σ : L2.St} {i : Nat} : ∀ {vs : List Nat}, i ∈ vs → i < σ.length → (wipe σ vs)[i]? = some none
  | [], h, _ => by cases h
  | v :: vs, h, hl => by
    unfold wipe
    by_cases e : v = i
    · subst e
      rw [List.getElem?_set_self (by rw [wipe_length]; exact hl)]
    · rw [List.getElem?_set_ne e]
      exact wipe_get (by rcases List.mem_cons.mp h with h | h; exact absurd h.symm e; exact h) hl
theorem wipe_frm {σ σ2 : L2.St} {vs : List Nat} (f : Frm vs (wipe σ vs) σ2) : wipe σ2 vs = wipe σ vs := by
  have hl : σ2.length = σ.length := by rw [f.1, wipe_length]
  refine List.ext_getElem? fun i => ?_
  by_cases hi : i ∈ vs
  · by_cases hlt : i < σ.length
    · rw [wipe_get hi hlt, wipe_get hi (by rw [hl]; exact hlt)]
    · rw [List.getElem?_eq_none (by rw [wipe_length]; omega), List.getElem?_eq_none (by rw [wipe_length]; omega)]
  · rw [wipe_out hi]
    rw [f.2 i hi]
section
variable {X : Cx} {g : Glb} {γ : Gam} {pos : Pos}
/-- the loop of a comprehension, by its reading -/
theorem lc_snd {ws : List Nat} {gd : Gd} {tg : AG} {tt : AT} {el : AE} {items : List D} {J : It} {A1 : List Addr} {H1 : Hp} {m1 : Mem} {σ : L2.St} {env : Env'} {Q : VK} {Da : Addr} {m2 : Mem}
    (hg : γ.Ok A1) (he : EnvR X.K g A1 H1 σ env) (itr : ItR X.K g A1 H1 J (items, gd)) (hr : Rel X.K g A1 H1 m1) (hD : H1 Da = none)
    (hl : lcL tg tt el gd (wipeE env ws) m1.length items (m1 ++ [.lst []]) = .ok () m2)
    (hQ : ∀ v A' H', Stab X.K A1 H1 A' H' → Rel X.K g A' H' m2 → Rep X.K g A' H' v (.ref m1.length) → Q v H') :
    ∃ W : Nat → Nat → Hp → Prop, (∃ m, W 0 m (upd H1 Da (.lst []))) ∧ ∀ i m H, W i m H →
      (J.stop i H ∧ Q (.ref Da) H) ∨ (J.go i H ∧ ∃ Nx : Hp → Prop, (∀ H', Nx H' → ∃ m', m' < m ∧ W (i + 1) m' H') ∧ ∀ x H', J.yld i H x H' → rdG X.K g γ ws tg (fun _ _ _ _ => False) x (wipe σ ws) H' fun σ2 H2 => wipe σ2 ws = wipe σ ws ∧ rdT X.K g γ tt (fun _ _ _ _ => False) σ2 H2 fun b H3 =>
        if b = true then rdE X.K g γ el (fun _ _ _ _ => False) σ2 H3 fun y H4 => ∃ acc, H4 Da = some (.lst acc) ∧ acc.length < sizeLine ∧ Nx (upd H4 Da (.lst (acc ++ [y]))) else Nx H3) := by
  obtain ⟨s0, r0, e0⟩ := hr.alloc (o := .lst []) (c := .lst []) hD fun s => ⟨[], upd_same, .nil⟩
  refine ⟨fun i n H => n = items.length - i ∧ i ≤ items.length ∧ ∃ A mem, Stab X.K A1 H1 A H ∧ Rel X.K g A H mem ∧ A[m1.length]? = some Da ∧ lcL tg tt el gd (wipeE env ws) m1.length (items.drop i) mem = .ok () m2, ⟨items.length, by simp, Nat.zero_le _, _, _, s0, r0, e0, hl⟩, ?_⟩
  rintro i n H ⟨rfl, hi, A, mem, s, hr, hDA, hl⟩
  by_cases hlt : i < items.length
  · have hd : items.drop i = items[i] :: items.drop (i + 1) := List.drop_eq_getElem_cons hlt
    rw [hd] at hl
    unfold lcL at hl
    split at hl
    · rename_i ok
      obtain ⟨go, _⟩ := itr i A H mem s hr ok
      obtain ⟨go, yl⟩ := go items[i] (List.getElem?_eq_getElem hlt)
      refine .inr ⟨go, fun H' => ∃ A mem, Stab X.K A1 H1 A H' ∧ Rel X.K g A H' mem ∧ A[m1.length]? = some Da ∧ lcL tg tt el gd (wipeE env ws) m1.length (items.drop (i + 1)) mem = .ok () m2, fun H' h => ⟨items.length - (i + 1), by omega, rfl, hlt, h⟩, fun x H2 hy => ?_⟩
      obtain ⟨A2, s2, r2, rx⟩ := yl x H2 hy
      have st2 := s.trans s2
      refine ⟨items[i], wipeE env ws, A2, mem, hg.pre st2.pre, wipeE_r (he.stab st2) ws, r2, rx, ?_⟩
      cases e1 : tg items[i] (wipeE env ws) mem with
      | er x m => rw [e1] at hl; cases hl
      | no => rw [e1] at hl; cases hl
      | ok e3 m3 =>
        rw [e1] at hl
        dsimp only at hl
        intro σ3 A3 H3 s3 r3 ⟨er3, fr3⟩
        have st3 := st2.trans s3
        refine ⟨wipe_frm fr3, e3, A3, m3, hg.pre st3.pre, er3, r3, ?_⟩
        cases e2 : tt e3 m3 with
        | er x m => rw [e2] at hl; cases hl
        | no => rw [e2] at hl; cases hl
        | ok b m4 =>
          rw [e2] at hl
          dsimp only at hl
          intro b' A4 H4 s4 r4 eb
          subst eb
          have st4 := st3.trans s4
          cases b' with
          | false =>
            rw [if_neg Bool.false_ne_true] at hl ⊢
            exact ⟨A4, m4, st4, r4, pre_get (s2.trans (s3.trans s4)).pre hDA, hl⟩
          | true =>
            rw [if_pos rfl] at hl
            rw [if_pos rfl]
            refine ⟨e3, A4, m4, hg.pre st4.pre, er3.stab s4, r4, ?_⟩
            cases e5 : el e3 m4 with
            | er x m => rw [e5] at hl; cases hl
            | no => rw [e5] at hl; cases hl
            | ok y m5 =>
              rw [e5] at hl
              dsimp only at hl
              intro v A5 H5 s5 r5 rv
              have st5 := st4.trans s5
              have hD5 := pre_get (s2.trans (s3.trans (s4.trans s5))).pre hDA
              split at hl
              · rename_i acc hm
                split at hl
                · rename_i hz
                  obtain ⟨vs, ev, q⟩ := r5.cell _ _ _ hD5 hm
                  refine ⟨vs, ev, by rw [q.length]; exact hz, ?_⟩
                  obtain ⟨s6, r6⟩ := r5.write (o' := .lst (vs ++ [v])) (c' := .lst (acc ++ [y])) hm hD5 rfl rfl fun s => ⟨_, upd_same, (q.stab s).append (.cons (rv.stab s) .nil)⟩
                  exact ⟨A5, _, st5.trans s6, r6, hD5, hl⟩
                · cases hl
              · cases hl
    · cases hl
  · have e : i = items.length := by omega
    subst e
    rw [List.drop_length] at hl
    unfold lcL at hl
    split at hl
    · rename_i ok
      obtain ⟨_, st⟩ := itr items.length A H mem s hr ok
      cases hl
      exact .inl ⟨st (Nat.le_refl _), hQ _ A H s hr (.ref hDA)⟩
    · cases hl
theorem se_lc {ws : List Nat} {elt tg iter : Expr} {ifs : List Expr} {scope : Scope} {own : List (Str × Nat)} {ai : AI} {t : AG} {tt : AT} {el : AE} (hc : X.calm = true) (hN : X.N.Nodup) (hi : SI X g γ tg iter ai) (ok : BlkOk X.N X.env.scope scope own) (hw : own.map (·.2) = ws)
    (hg : ∀ (s : Shared) (H : Hp) (C : Addr) (cl : List (Str × Addr)) (fp : List Addr), SG (X.blk s H scope (compEnvC scope cl C X.env) fp) g γ ws tg t) (ht : ∀ (s : Shared) (H : Hp) (C : Addr) (cl : List (Str × Addr)) (fp : List Addr), STs (X.blk s H scope (compEnvC scope cl C X.env) fp) g γ ifs tt)
    (he : ∀ (s : Shared) (H : Hp) (C : Addr) (cl : List (Str × Addr)) (fp : List Addr), SE (X.blk s H scope (compEnvC scope cl C X.env) fp) g γ elt el) (hs : ∀ x, foldedSetIterable iter X.env x = pure x := by intro _; rfl) :
    SE X g γ (.ListComp elt [⟨tg, iter, ifs, 0⟩] scope pos) (eLc ai t tt el ws) := ⟨fun W tk => by
  subst hw
  obtain ⟨wi, pi, qi⟩ := hi.out W tk
  refine ⟨_, pe_lc (g := rdG X.K g γ (own.map (·.2)) t (fun _ _ _ _ => False)) (tt := rdT X.K g γ tt (fun _ _ _ _ => False)) (te := rdE X.K g γ el (fun _ _ _ _ => False)) hc hN pi ok (fun s H C cl fp => (hg s H C cl fp).uni takes0) (fun s H C cl fp => (ht s H C cl fp).uni takes0) (fun s H C cl fp => (he s H C cl fp).uni takes0) hs, fun σ env A H mem Q hgm her hr hp => ?_⟩
  refine qi σ env A H mem _ hgm her hr (hp.bnd fun J A1 H1 p m s1 r1 itr p1 => ?_)
  intro Da hD
  obtain ⟨items, gd⟩ := p
  cases e : lcL t tt el gd (wipeE env (own.map (·.2))) m.length items (m ++ [.lst []]) with
  | ok u m2 =>
    dsimp only at p1
    rw [e] at p1
    exact lc_snd (hgm.pre s1.pre) (her.stab s1) itr r1 hD e p1
  | er x m2 => dsimp only at p1; rw [e] at p1; exact p1.elim
  | no => dsimp only at p1; rw [e] at p1; exact p1.elim⟩
theorem ss_lc {ws : List Nat} {i : Nat} {y : Str} {py : Pos} {elt tg iter : Expr} {ifs : List Expr} {scope : Scope} {own : List (Str × Nat)} {spos : Pos} {ai : AI} {t : AG} {tt : AT} {el : AE} (hc : X.calm = true) (hN : X.N.Nodup) (hi : SI X g γ tg iter ai) (ok : BlkOk X.N X.env.scope scope own) (hw : own.map (·.2) = ws)
    (hg : ∀ (s : Shared) (H : Hp) (C : Addr) (cl : List (Str × Addr)) (fp : List Addr), SG (X.blk s H scope (compEnvC scope cl C X.env) fp) g γ ws tg t) (ht : ∀ (s : Shared) (H : Hp) (C : Addr) (cl : List (Str × Addr)) (fp : List Addr), STs (X.blk s H scope (compEnvC scope cl C X.env) fp) g γ ifs tt)
    (he : ∀ (s : Shared) (H : Hp) (C : Addr) (cl : List (Str × Addr)) (fp : List Addr), SE (X.blk s H scope (compEnvC scope cl C X.env) fp) g γ elt el)
    (hy : X.N[i]? = some y := by rfl) (hyl : X.env.scope.names.lookup y = some .local := by rfl)
    (hsw : swapsWith (.ListComp elt [⟨tg, iter, ifs, 0⟩] scope pos) (some (.Name y py)) spos.line X.env = pure true := by exact sw_true rfl rfl rfl (by decide +kernel)) (hs : ∀ x, foldedSetIterable iter X.env x = pure x := by intro _; rfl) :
    SS X g γ (.Assign [.Name y py] (.ListComp elt [⟨tg, iter, ifs, 0⟩] scope pos) spos) (sAsg (eLc ai t tt el ws) (gN i)) := ⟨fun W tk => by
  subst hw
  obtain ⟨wi, pi, qi⟩ := hi.out W tk
  refine ⟨_, ps_setLc (g := rdG X.K g γ (own.map (·.2)) t (fun _ _ _ _ => False)) (tt := rdT X.K g γ tt (fun _ _ _ _ => False)) (te := rdE X.K g γ el (fun _ _ _ _ => False)) hc hN hy hyl hsw pi ok (fun s H C cl fp => (hg s H C cl fp).uni takes0) (fun s H C cl fp => (ht s H C cl fp).uni takes0) (fun s H C cl fp => (he s H C cl fp).uni takes0) hs, fun σ env A H mem E hgm her hr hp => ?_⟩
  have hp2 : PostS X.K g A H ((ai env mem).o env fun p m => (match lcL t tt el p.2 (wipeE env (own.map (·.2))) m.length p.1 (m ++ [.lst []]) with
    | .ok _ m2 => .nx (env.set i (some (.ref m.length))) m2
    | _ => .no)) E W := by
    have e : sAsg (eLc ai t tt el (own.map (·.2))) (gN i) env mem = ((ai env mem).o env fun p m => (match lcL t tt el p.2 (wipeE env (own.map (·.2))) m.length p.1 (m ++ [.lst []]) with
      | .ok _ m2 => .nx (env.set i (some (.ref m.length))) m2
      | _ => .no)) := by
      unfold sAsg eLc gN
      cases ai env mem with
      | ok p m =>
        dsimp only [R.o, R.bind]
        cases lcL t tt el p.2 (wipeE env (own.map (·.2))) m.length p.1 (m ++ [.lst []]) <;> rfl
      | er x m => rfl
      | no => rfl
    rw [← e]; exact hp
  refine qi σ env A H mem _ hgm her hr (PostS.of her hp2 fun J A1 H1 p m s1 r1 itr p1 => ?_)
  intro Da hD
  obtain ⟨items, gd⟩ := p
  cases e : lcL t tt el gd (wipeE env (own.map (·.2))) m.length items (m ++ [.lst []]) with
  | ok u m2 =>
    dsimp only at p1
    rw [e] at p1
    refine lc_snd (Q := fun v H' => gName i v σ H' E.nx) (hgm.pre s1.pre) (her.stab s1) itr r1 hD e fun v A' H' s' r' rv => ?_
    exact p1 _ A' H' s' r' ((her.stab (s1.trans s')).set i rv)
  | er x m2 => dsimp only at p1; rw [e] at p1; exact p1.elim
  | no => dsimp only at p1; rw [e] at p1; exact p1.elim⟩
end
end Ab
set_option Elab.async false
set_option linter.all false
set_option maxRecDepth 100000
namespace PyProof.Rows
open PySem
section
variable {prog : Program} {w : World} {A : Around} {E : Value → Shared → Prop} {s : Shared}
theorem collect_tup {l : Addr} {vs : List Value} {Q : List Value → Shared → Prop} (hl : s.heap.IsTuple l vs.toArray)
    (h : Q vs { s with heap := (s.heap.push (seqObj "list" #[] 0)).update s.heap.objs.size (Obj.mapSeq (· ++ vs.toArray)) }) (hsz : vs.length ≤ sizeLine := by size_fits) :
    wpAny (model prog w) A (collect (.ref l)) Q E s := by
  obtain ⟨o, ho, hc, n, hd⟩ := id hl
  unfold collect
  refine wpAny_bind (wpAny_runValue (codeAny_builtin entry_proto_collect' ?_))
  show wpAny _ _ (do again (.builtin "list.__iadd__" ⟨[← newList [], .ref l], []⟩)) _ _ s
  refine wpAny_bind (wpAny_newList (wpAny_pure ⟨Code.quiet_builtin _ (by decide +kernel), codeAny_builtin entry_list_iadd' ?_⟩))
  show wpAny _ _ (Builtin.List.listExtendWith (.ref s.heap.objs.size) (.ref l) (.ref s.heap.objs.size)) _ _ { s with heap := s.heap.push (seqObj "list" #[] 0) }
  unfold Builtin.List.listExtendWith
  have ho2 : (s.heap.push (seqObj "list" #[] 0)).get? l = some o := Heap.get?_push_of_some _ ho
  refine wpAny_bind (wpAny_typeOf (T := "tuple") ⟨o, ho2, hc⟩ ?_)
  have ht : (Value.type "tuple" == Value.type "tuple") = true := by rfl
  rw [if_pos (by rw [ht]; simp)]
  refine wpAny_bind (listItems_at ho2 hd ?_)
  refine wpAny_bind (listItems_at (xs := #[]) (n := 0) (Heap.get?_push_size _ rfl) rfl ?_)
  rw [if_neg (by simp)]
  refine wpAny_bind (listUpdate_at (xs := #[]) (n := 0) (Heap.get?_push_size _ rfl) rfl ?_ (Nat.zero_le _) (by show (#[] ++ vs.toArray).size ≤ sizeLine + 1; simp only [Array.size_append, List.size_toArray, List.length_nil]; omega))
  refine wpAny_pure ?_
  show wpAny (model prog w) A (do
      let o2 ← load s.heap.objs.size
      match o2.data with
      | .seq xs _ => pure xs.toList
      | _ => unsupported "internal:collect") Q E { s with heap := (s.heap.push (seqObj "list" #[] 0)).update s.heap.objs.size (Obj.mapSeq (· ++ vs.toArray)) }
  refine wpAny_bind (wpAny_load (get?_update_seq (Heap.get?_push_size _ rfl) _) ?_)
  show wpAny _ _ (pure ((#[] : Array Value) ++ vs.toArray).toList) Q E _
  rw [show ((#[] : Array Value) ++ vs.toArray).toList = vs by simp]
  exact wpAny_pure h
end
end PyProof.Rows
namespace SrtO
open PySem PyProof.Rows
section
variable {prog : Program} {w : World} {A : Around} {E : Value → Shared → Prop} {s : Shared}
theorem sorted_ordT {l : Addr} {vs : List Value} {ltv : Value → Value → Bool} {Q : Value → Shared → Prop} (O : Swo ltv) (hl : s.heap.IsTuple l vs.toArray) (hz : vs.length ≤ sizeLine)
    (hS : 2 ≤ vs.length → ∀ (h₁ : Heap) (a : Addr), h₁.get? a = some (seqObj "list" vs.toArray 0) → (∀ b o, s.heap.get? b = some o → b ≠ a ∧ h₁.get? b = some o) → SortableO prog w A.in1.in1 { s with heap := h₁ } a vs ltv)
    (h : ∀ out : List Value, Srtd ltv out → Stb ltv out vs → Q (.ref (s.heap.objs.size + 1)) { s with heap := sortedAll s.heap vs out.toArray }) :
    wpAny (model prog w) A (call (.builtin "sorted") [.ref l]) Q E s := by
  refine Calls.call_function_entry kind_sorted plain_sorted entry_sorted (args_sorted1 _) ?_
  unfold Builtin.«sorted»
  refine wpAny_bind (m := checkCount "sorted" 1 1 _) (wpAny_pure ?_)
  refine wpAny_bind (collect_tup hl ?_ hz)
  refine wpAny_bind (wpAny_newList ?_ hz)
  have hsz : ((s.heap.push (seqObj "list" #[] 0)).update s.heap.objs.size (Obj.mapSeq (· ++ vs.toArray))).objs.size = s.heap.objs.size + 1 := by
    rw [Heap.size_update, size_push']
  have hoL : (((s.heap.push (seqObj "list" #[] 0)).update s.heap.objs.size (Obj.mapSeq (· ++ vs.toArray))).push (seqObj "list" vs.toArray 0)).get? (s.heap.objs.size + 1) = some (seqObj "list" vs.toArray 0) := by
    rw [← hsz]; exact Heap.get?_push_size _ rfl
  have keep : ∀ b o, s.heap.get? b = some o → b ≠ s.heap.objs.size + 1 ∧ (((s.heap.push (seqObj "list" #[] 0)).update s.heap.objs.size (Obj.mapSeq (· ++ vs.toArray))).push (seqObj "list" vs.toArray 0)).get? b = some o := fun b o q => by
    have hlt : b < s.heap.objs.size := Heap.lt_size q
    refine ⟨Nat.ne_of_lt (Nat.lt_succ_of_lt hlt), Heap.get?_push_of_some _ ?_⟩
    rw [Heap.get?_update_ne _ _ _ _ (Nat.ne_of_lt hlt)]
    exact Heap.get?_push_of_some _ q
  show wpAny _ _ _ _ _ { s with heap := ((s.heap.push (seqObj "list" #[] 0)).update s.heap.objs.size (Obj.mapSeq (· ++ vs.toArray))).push (seqObj "list" vs.toArray 0) }
  rw [hsz]
  refine wpAny_bind (wpAny_holding (wpAny_call_entry slot_list_sort ⟨_, hoL, rfl⟩ entry_list_sort (list_sort_ord O hoL hz (fun h2 => hS h2 _ _ hoL keep) fun out hs hb => ⟨_, rfl, ?_⟩) (args_list_sort _)))
  exact wpAny_pure ⟨_, rfl, h out hs hb⟩
end
end SrtO
namespace L2
open PySem PySem.Spec PyProof.Rows PySem.W
section
variable {X : Cx}
/-- sorted(xs), ints, a list or a tuple -/
def rSortedB (K : PySem.W.Frag) : List V → Hp → VK → Prop := fun vs H Q => ∃ (b : Bool) (a : Addr) (ns : List Int), vs = [V.ref a] ∧ SqB K b H a (ns.map V.int) ∧
  ∀ (ns' : List Int) (p : Addr), ns'.Perm ns → ns'.Pairwise (· ≤ ·) → H p = none → Q (.ref p) (upd H p (.lst (ns'.map V.int)))
theorem cr_sortedB : CallR X (.builtin "sorted") (rSortedB X.K) := by
  intro pins s σ H vs us Q I r h
  obtain ⟨b, a, ns, rfl, hs, q⟩ := h
  cases b with
  | false => exact cr_sortedI pins s σ H _ us Q I r ⟨a, ns, rfl, hs, q⟩
  | true =>
    obtain ⟨its, rv, hl, hz⟩ := I.tuple hs
    rw [Vals.ref1 r]
    have hi := rv.ints
    refine SrtO.sorted_ordT SrtO.swo_int hl (by rw [← rv.length]; exact hz) (fun h2 h₁ a' _ _ => SrtO.ints_sortable hi h2) fun out h1 h2 => ?_
    obtain ⟨k1, k2, k3⟩ := SrtO.ints_out hi h1 h2
    obtain ⟨ep, he'⟩ := PyProof.Rows.sortedAll_at s.heap its out.toArray
    have hlen : ((out.map SrtO.iv).map V.int).length ≤ sizeLine := by
      rw [List.length_map, k2.length_eq]
      rw [List.length_map] at hz
      exact hz
    exact ⟨.ref _, upd H (s.heap.objs.size + 1) (.lst ((out.map SrtO.iv).map V.int)), I.laid (t' := s.toks) (fun _ _ => PyProof.Rows.sortedAll_old) (Nat.le_succ _) ⟨hlen, out, ep, vals_of_ints k1, he'⟩, rfl, q _ _ k2 k3 (I.hok.fresh (Nat.le_succ _))⟩
/-- a list's, a tuple's data -/
theorem SqB.reads {b : Bool} {pins : List (Addr × Obj)} {σ : St} {H : Hp} {s : Shared} {a : Addr} {xs : List V} {ds : List PyData} (I : Inv X pins σ H s) (h : SqB X.K b H a xs) (hd : DpAll X.K H xs ds) : ∃ (its : List Value) (as : List Addr), Vals xs its ∧ HasB b s.heap a its.toArray ∧ ReadsAll s.heap its ds as := by
  obtain ⟨its, rv, p, z, _⟩ := h.get I
  obtain ⟨as, q⟩ := Dp.readsAll I ds _ its hd rv
  exact ⟨its, as, rv, p, q⟩
theorem depth_all0 : ∀ xs : List Int, PyData.depthAll (xs.map .int) = 0
  | [] => rfl
  | n :: ns => by
    rw [List.map_cons]
    show max (PyData.depth (.int n)) (PyData.depthAll (ns.map .int)) = 0
    rw [depth_all0 ns]
    rfl
theorem ints_alike : ∀ ns : List Int, AlikeAll (ns.map PyData.int) := fun ns => ⟨fun x hx y hy => by
  obtain ⟨i, _, rfl⟩ := List.mem_map.mp hx
  obtain ⟨j, _, rfl⟩ := List.mem_map.mp hy
  rfl, fun x hx e => by
  obtain ⟨i, _, rfl⟩ := List.mem_map.mp hx
  cases e⟩
theorem dpAll_ints {K : PySem.W.Frag} {H : Hp} : ∀ ns : List Int, DpAll K H (ns.map V.int) (ns.map PyData.int)
  | [] => .nil
  | n :: ns => .cons (.int n) (dpAll_ints ns)
def rMinB (K : PySem.W.Frag) (f : Int → List Int → Int) : List V → Hp → VK → Prop := fun vs H Q => ∃ (b : Bool) (a : Addr) (n : Int) (ns : List Int), vs = [V.ref a] ∧ SqB K b H a ((n :: ns).map V.int) ∧ Q (.int (f n ns)) H
theorem cr_minB (hc : X.calm = true) (hu : X.A.units + 64 < cLine) : CallR X (.builtin "min") (rMinB X.K fun n ns => ns.foldl min n) := by
  intro pins s σ H vs us Q I r h
  obtain ⟨b, a, n, ns, rfl, hs, q⟩ := h
  obtain ⟨its, as, rv, p, rd⟩ := hs.reads I (dpAll_ints (n :: ns))
  rw [Vals.ref1 r]
  have hd : PyData.depthAll (PyData.int n :: ns.map PyData.int) = 0 := depth_all0 (n :: ns)
  have fin : ∀ (i : Nat) v h' tk bs, its.toArray[i]? = some v → Reads h' v (minD (.int n) (ns.map .int)) bs → (∀ b o, s.heap.get? b = some o → h'.get? b = some o) → EP X pins σ Q v { s with heap := h', toks := tk } := fun i v h' tk bs _ hr hk => by
    rw [minD_ints] at hr
    cases hr with
    | int i t => exact ⟨.int _, H, I.kept (t' := tk) hk, ⟨t, rfl⟩, q⟩
  cases b with
  | true => exact min_tuple_data (I.ok.hd hc) p rd (ints_alike (n :: ns)) (by rw [hd]; omega) fin
  | false => exact min_list_data (I.ok.hd hc) p rd (ints_alike (n :: ns)) (by rw [hd]; omega) fin
theorem cr_maxB (hc : X.calm = true) (hu : X.A.units + 64 < cLine) : CallR X (.builtin "max") (rMinB X.K fun n ns => ns.foldl max n) := by
  intro pins s σ H vs us Q I r h
  obtain ⟨b, a, n, ns, rfl, hs, q⟩ := h
  obtain ⟨its, as, rv, p, rd⟩ := hs.reads I (dpAll_ints (n :: ns))
  rw [Vals.ref1 r]
  have hd : PyData.depthAll (PyData.int n :: ns.map PyData.int) = 0 := depth_all0 (n :: ns)
  have fin : ∀ (i : Nat) v h' tk bs, its.toArray[i]? = some v → Reads h' v (maxD (.int n) (ns.map .int)) bs → (∀ b o, s.heap.get? b = some o → h'.get? b = some o) → EP X pins σ Q v { s with heap := h', toks := tk } := fun i v h' tk bs _ hr hk => by
    rw [maxD_ints] at hr
    cases hr with
    | int i t => exact ⟨.int _, H, I.kept (t' := tk) hk, ⟨t, rfl⟩, q⟩
  cases b with
  | true => exact max_tuple_data (I.ok.hd hc) p rd (ints_alike (n :: ns)) (by rw [hd]; omega) fin
  | false => exact max_list_data (I.ok.hd hc) p rd (ints_alike (n :: ns)) (by rw [hd]; omega) fin
/-- t.index(x), ints -/
theorem mt_tupIndex : MtR X "tuple.index" (fun x xs H Q => ∃ (a : Addr) (ns : List Int) (k : Int), x = .ref a ∧ xs = [.int k] ∧ SqT X.K H a (ns.map V.int) ∧ k ∈ ns ∧ Q (.int (ns.idxOf k : Nat)) H) := by
  intro pins s σ H x xs v us Q I rx rxs h
  obtain ⟨a, ns, k, rfl, rfl, hs, hk, q⟩ := h
  cases rx
  obtain ⟨u, rfl, t, rfl⟩ := rxs.one
  obtain ⟨its, rv, p, _⟩ := I.tuple hs
  have hlen : its.length = ns.length := by rw [← rv.length, List.length_map]
  refine SeqAt.call_tuple_index (ks := ns) (k := k) p ⟨hlen, fun j h1 h2 => ?_⟩ hk ⟨.int _, H, I.tok _, ⟨_, rfl⟩, q⟩
  obtain ⟨u, hu, ru⟩ := rv.get (i := j) (x := .int ns[j]) (by rw [List.getElem?_map, List.getElem?_eq_getElem h2]; rfl)
  obtain ⟨tu, rfl⟩ := ru
  rw [List.getElem?_eq_getElem h1] at hu
  rw [Option.some.inj hu]
  have e : (ns[j] == k) = decide (ns[j] = k) := by
    by_cases z : ns[j] = k
    · simp [z]
    · simp [z]
  rw [← e]
  exact SeqAt.EqAt.int_int ns[j] tu k t
/-- xs.count(x), data -/
theorem mt_countD (hu : X.A.units + 65 < cLine) : MtR X "list.count" (fun x xs H Q => ∃ (a : Addr) (y : V) (d : PyData) (ds : List PyData), x = V.ref a ∧ xs = [y] ∧ Dp X.K H (V.ref a) (.list ds) ∧ Dp X.K H y d ∧
    SeqAt.shaped (.list ds) = true ∧ SeqAt.shaped d = true ∧ Q (.int (ds.countP fun z => PyData.eqv z d : Nat)) H) := by
  intro pins s σ H x xs v us Q I rx rxs h
  obtain ⟨a, y, d, ds, rfl, rfl, hl, hy, sl, sd, q⟩ := h
  cases rx
  obtain ⟨uy, rfl, ry⟩ := rxs.one
  obtain ⟨bs, r1⟩ := Dp.reads I d y uy hy ry
  have hxs : PyData.canLayAll0 ds = true := SeqAt.canLay_of_shaped sl
  have hroom : X.A.units + 1 + min (PyData.depthAll ds) d.depth < cLine := room_in_shaped sd hu
  cases hl with
  | lst hs ha =>
    obtain ⟨its, rv, ⟨⟨cls, dd, data, sls⟩, n, ho, hc, hdn, hdt⟩, hlen⟩ := I.list hs
    simp only at hc hdt
    subst hc hdt
    obtain ⟨as, h4⟩ := Dp.readsAll I ds _ its ha rv
    have hmap : its.map (SeqAt.readOf s.heap) = ds := SeqAt.readsAll_map ds its as hxs h4
    refine call_meets PySem.F.slot_list_count ⟨_, ho, rfl⟩ PySem.F.entry_list_count (PySem.F.args_list_count_2 _ _)
      (SeqAt.list_countAt a its.toArray n dd sls uy (fun u => PyData.eqv (SeqAt.readOf s.heap u) d)) ⟨ho, SeqAt.items_eqAt (vs := its.toArray) (show ReadsAll s.heap its.toArray.toList ds as from h4) r1 hxs (SeqAt.canLay_of_shaped sd) hroom, ?_⟩
    have e : its.toArray.toList.countP (fun u => PyData.eqv (SeqAt.readOf s.heap u) d) = ds.countP fun z => PyData.eqv z d := by
      rw [← hmap, List.countP_map]
      rfl
    rw [e]
    exact ⟨.int _, H, I.tok _, ⟨_, rfl⟩, q⟩
end
end L2
set_option Elab.async false
set_option linter.all false
set_option maxRecDepth 100000
namespace Ab
open PySem PySem.Spec PyProof.Rows L2

/-! ### defs -/
def spOf (K : PySem.W.Frag) (g : Glb) (n : Nat) (af : AF) : Sp := fun vs H Q E => vs.length = n ∧ ∃ A mem ds, Rel K g A H mem ∧ RepL K g A H vs ds ∧ Post K g (Rep K g) A H (af ds mem) Q E
def O.f (o : O) : R D := match o with
  | .nx _ m => .ok .non m
  | .rt d m => .ok d m
  | .er x _ m => .er x m
  | _ => .no
/-- a def: its parameters come first among its n slots -/
def afOf (n : Nat) (as : AS) : AF := fun ds m => (as (ds.map some ++ List.replicate (n - ds.length) none) m).f
structure FnA (P : Program) (w : World) (K : PySem.W.Frag) (mg : Str → Option Value) (base : Heap) (g : Glb) (k : Nat) (x : Str) (n : Nat) (af : AF) : Prop where
  ex : ∃ f fd ps, mg x = some (.ref f) ∧ g.fa x = f ∧ PySem.W.keepIn K (.ref f) = true ∧ Binds K fd ps [] ∧ FnOk P w K mg base (L2.CX P w) k f fd ps (spOf K g n af)
theorem FnA.mono {P : Program} {w : World} {K : PySem.W.Frag} {mg : Str → Option Value} {base : Heap} {g : Glb} {j k : Nat} {x : Str} {n : Nat} {af : AF} (F : FnA P w K mg base g j x n af) (h : j ≤ k) : FnA P w K mg base g k x n af := by
  obtain ⟨f, fd, ps, h1, h2, h3, h4, h5⟩ := F.ex
  exact ⟨f, fd, ps, h1, h2, h3, h4, h5.mono h⟩
section
variable {P : Program} {w : World} {K : PySem.W.Frag} {mg : Str → Option Value} {base : Heap} {g : Glb}
theorem env_start {A : List Addr} {H : Hp} {vs : List V} {ds : List D} {N : List Str} (r : RepL K g A H vs ds) : EnvR K g A H (L2.start N vs) (ds.map some ++ List.replicate (N.length - ds.length) none) := by
  unfold L2.start
  refine ⟨by simp [r.length], fun i d h => ?_⟩
  have hi : i < ds.length := by
    by_cases z : i < ds.length
    · exact z
    · rw [List.getElem?_append_right (by simpa using z), List.getElem?_replicate] at h
      split at h <;> cases h
  rw [List.getElem?_append_left (by simpa using hi), List.getElem?_map] at h
  cases e : ds[i]? with
  | none => rw [e] at h; cases h
  | some x =>
    rw [e] at h
    cases h
    obtain ⟨v, hv, rv⟩ := r.get e
    exact ⟨v, by rw [List.getElem?_append_left (by rw [List.length_map, r.length]; exact hi), List.getElem?_map, hv]; rfl, rv⟩
/-- a def's body, read, gives its promise -/
theorem fn_okA {x qual : Str} {st : Stmt} {f : Addr} {fd : FuncData} {N ps : List Str} {k n : Nat} {as : AS} (F : Fun K x qual st f fd) (S : FnScope N ps (defScope st)) (hn : ps.length = n)
    (hb : ∀ (cdv : Value) (A : Around) (outer : List Env) (s : Shared) (H : Hp) (E : XK), Room k (A.deeper (envOfC qual (defScope st) s.heap.objs.size f cdv)) → SSs (cxOf (L2.CX P w) P w K mg base N qual (defScope st) f cdv A outer s H E) g [] (defBody st) as) :
    FnOk P w K mg base (L2.CX P w) (k + 1) f fd ps (spOf K g n (afOf N.length as)) := by
  refine F.okX S (fun vs H Q E h => by rw [hn]; exact h.1) fun cdv A outer s H vs Q E hr h => ?_
  obtain ⟨hl, A', mem, ds, R, r, p⟩ := h
  obtain ⟨t, pt, q⟩ := (hb cdv A outer s H E hr).out (fun c d _ H => E c d H) (takes_of rfl rfl rfl rfl)
  refine ⟨t, pt, q _ _ A' H mem _ (fun _ hp => by cases hp) (env_start (N := N) r) R ?_⟩
  unfold afOf at p
  show PostS K g A' H (as (ds.map some ++ List.replicate (N.length - ds.length) none) mem) _ _
  cases e : as (ds.map some ++ List.replicate (N.length - ds.length) none) mem with
  | nx e2 m2 => rw [e] at p; exact fun σ A2 H2 s2 r2 _ => p .non A2 H2 s2 r2 .non
  | rt d m2 => rw [e] at p; exact p
  | er x e2 m2 => rw [e] at p; exact fun c dd σ A2 H2 s2 r2 _ ex => p c dd A2 H2 s2 r2 ex
  | bk e2 m2 => rw [e] at p; exact p.elim
  | ct e2 m2 => rw [e] at p; exact p.elim
  | no => rw [e] at p; exact p.elim
end
section
variable {X : Cx} {g : Glb} {γ : Gam} {e : Expr} {es : List Expr} {aa : AA} {p pos : Pos} {x : Str}
theorem post_nil {K : PySem.W.Frag} {A : List Addr} {H : Hp} {vs : List V} {α : Type} (P : List V → α) : P (vs ++ []) = P vs := by rw [List.append_nil]
/-- f(e, ..) -/
theorem se_call {k n : Nat} {af : AF} (F : FnA X.prog X.w X.K X.mg X.base g k x n af) (hr : Room k X.A) (hl : (e :: es).length = n) (ha : SA X g γ (e :: es) aa) (hla : ∀ env m ds m', aa env m = .ok ds m' → ds.length = n) (hg : L2.Gl X x := by rfl) (hdb : (x == ("__debug__" : Str)) = false := by decide)
    (he : starEach (e :: es) X.env = (false, eval e X.env) :: starEach es X.env := by rfl) (hpl : (backTo pos (starEach es X.env)).any (·.1) = false := by rfl) : SE X g γ (.Call (.Name x p) (e :: es) [] pos) (eCall af aa) := ⟨fun W tk => by
  obtain ⟨t, pa, q⟩ := ha.out W tk
  obtain ⟨f, fd, ps, hm, _, hk, hb, F⟩ := F.ex
  refine ⟨_, pe_callS F hr hg hm hk hb (fun σ => passAt tk σ) pa hdb he hpl, fun σ env A H mem Q hg he hr hp => ?_⟩
  have key : ∀ ds m, aa env mem = .ok ds m → ds.length = n := fun ds m z => hla env mem ds m z
  cases e1 : aa env mem with
  | ok ds m =>
    refine q σ env A H mem _ hg he hr ?_
    unfold eCall at hp
    rw [e1] at hp ⊢
    exact fun vs A1 H1 s1 r1 rv => ⟨by rw [rv.length]; exact key ds m e1, A1, m, ds, r1, rv, Post.up s1 hp⟩
  | er y m =>
    refine q σ env A H mem _ hg he hr ?_
    unfold eCall at hp
    rw [e1] at hp ⊢
    exact hp
  | no =>
    unfold eCall at hp
    rw [e1] at hp
    exact hp.elim⟩
/-- f() -/
theorem se_call0 {k : Nat} {af : AF} (F : FnA X.prog X.w X.K X.mg X.base g k x 0 af) (hr : Room k X.A) (hg : L2.Gl X x := by rfl) (hdb : (x == ("__debug__" : Str)) = false := by decide) : SE X g γ (.Call (.Name x p) [] [] pos) (eCall af aNil) := ⟨fun W tk => by
  obtain ⟨f, fd, ps, hm, _, hk, hb, F⟩ := F.ex
  refine ⟨fun σ H Q => spOf X.K g 0 af [] H Q (WE W σ), ⟨fun pins s σ H Q I h => ?_⟩, fun σ env A H mem Q hg he hr hp => ⟨rfl, A, mem, [], hr, .nil, hp⟩⟩
  refine wpAny_Call_Name_kw (ld_glob I hg hm ?_ hdb)
  exact PySem.W.callWith_K0 I.kIn hk (run_fnS (us := []) F hr hb (passAt tk σ) I .nil h)⟩
/-- built-in functions, built-in types -/
theorem se_cb {id : String} {F : FL} (h : CaA X g (.builtin id) F) (hm : X.mg x = none) (hv : bootBuiltins x = some (.builtin id)) (ha : SA X g γ (e :: es) aa) (hg : L2.Gl X x := by rfl) (hn : x ≠ "__name__" := by decide) (hdb : (x == ("__debug__" : Str)) = false := by decide)
    (he : starEach (e :: es) X.env = (false, eval e X.env) :: starEach es X.env := by rfl) (hpl : (backTo pos (starEach es X.env)).any (·.1) = false := by rfl) : SE X g γ (.Call (.Name x p) (e :: es) [] pos) (eCall F aa) := ⟨fun W tk => by
  obtain ⟨r, h1, h2⟩ := h.out
  obtain ⟨t, pa, q⟩ := ha.out W tk
  refine ⟨_, pe_callB h1 hg hm hv pa hn hdb he hpl, fun σ env A H mem Q hg he hr hp => ?_⟩
  exact q σ env A H mem _ hg he hr (hp.bnd fun vs A1 H1 ds m s1 r1 rv p1 => h2 A1 H1 m vs ds Q _ r1 rv p1)⟩
theorem se_ct {T : String} {F : FL} (h : CaA X g (.type T) F) (hm : X.mg x = none) (hv : bootBuiltins x = some (.type T)) (ha : SA X g γ (e :: es) aa) (hg : L2.Gl X x := by rfl) (hn : x ≠ "__name__" := by decide) (hdb : (x == ("__debug__" : Str)) = false := by decide)
    (he : starEach (e :: es) X.env = (false, eval e X.env) :: starEach es X.env := by rfl) (hpl : (backTo pos (starEach es X.env)).any (·.1) = false := by rfl) : SE X g γ (.Call (.Name x p) (e :: es) [] pos) (eCall F aa) := ⟨fun W tk => by
  obtain ⟨r, h1, h2⟩ := h.out
  obtain ⟨t, pa, q⟩ := ha.out W tk
  refine ⟨_, pe_callTy h1 hg hm hv pa hn hdb he hpl, fun σ env A H mem Q hg he hr hp => ?_⟩
  exact q σ env A H mem _ hg he hr (hp.bnd fun vs A1 H1 ds m s1 r1 rv p1 => h2 A1 H1 m vs ds Q _ r1 rv p1)⟩

/-! ### built-ins -/
def itemsD (d : D) (m : Mem) : Option (List D) := match d with
  | .tup ds => some ds
  | .ref n => match m[n]? with
    | some (.lst ds) => some ds
    | some (.rol ds) => some ds
    | _ => none
  | _ => none
theorem items_sq {A : List Addr} {H : Hp} {m : Mem} {v : V} {d : D} {ds : List D} (r : Rel X.K g A H m) (rv : Rep X.K g A H v d) (h : itemsD d m = some ds) : ∃ b a vs, v = .ref a ∧ SqB X.K b H a vs ∧ RepL X.K g A H vs ds := by
  unfold itemsD at h
  cases rv with
  | @tup a vs ds' hn l => cases h; exact ⟨true, a, vs, rfl, hn.t, l⟩
  | @ref n a ha =>
    dsimp only at h
    split at h
    · rename_i ds' hm
      cases h
      obtain ⟨vs, e, q⟩ := r.cell _ _ _ ha hm
      exact ⟨false, a, vs, rfl, .inl (.inl e), q⟩
    · rename_i ds' hm
      cases h
      obtain ⟨vs, e, q⟩ := r.cell _ _ _ ha hm
      exact ⟨false, a, vs, rfl, e.l, q⟩
    · cases h
  | _ => cases h
theorem items_ref {A : List Addr} {H : Hp} {m : Mem} {n : Nat} {a : Addr} {ds : List D} (r : Rel X.K g A H m) (ha : A[n]? = some a) (h : itemsD (.ref n) m = some ds) : ∃ vs, SqL X.K H a vs ∧ RepL X.K g A H vs ds := by
  unfold itemsD at h
  dsimp only at h
  split at h
  · rename_i ds' hm
    cases h
    obtain ⟨vs, e, q⟩ := r.cell _ _ _ ha hm
    exact ⟨vs, .inl (.inl e), q⟩
  · rename_i ds' hm
    cases h
    obtain ⟨vs, e, q⟩ := r.cell _ _ _ ha hm
    exact ⟨vs, e.l, q⟩
  · cases h
theorem sqB_or {K : PySem.W.Frag} {b : Bool} {H : Hp} {a : Addr} {vs : List V} (h : SqB K b H a vs) : SqL K H a vs ∨ SqT K H a vs := by
  cases b with
  | true => exact .inr h
  | false => exact .inl h
theorem caR_or {f : Value} {r r' : List V → Hp → VK → Prop} (h : CallR X f r) (h' : CallR X f r') : CallR X f (fun xs H Q => r xs H Q ∨ r' xs H Q) := by
  intro pins s σ H xs us Q I rs q
  rcases q with q | q
  · exact h pins s σ H xs us Q I rs q
  · exact h' pins s σ H xs us Q I rs q
theorem repL_one {A : List Addr} {H : Hp} {xs : List V} {d : D} (h : RepL X.K g A H xs [d]) : ∃ v, xs = [v] ∧ Rep X.K g A H v d := by
  cases h with
  | cons h1 h2 => cases h2; exact ⟨_, rfl, h1⟩
theorem repL_two {A : List Addr} {H : Hp} {xs : List V} {d e : D} (h : RepL X.K g A H xs [d, e]) : ∃ v w, xs = [v, w] ∧ Rep X.K g A H v d ∧ Rep X.K g A H w e := by
  cases h with
  | cons h1 h2 => cases h2 with
    | cons h2 h3 => cases h3; exact ⟨_, _, rfl, h1, h2⟩
def bLen : FL := fun ds m => match ds with
  | [d] => match itemsD d m with
    | some xs => .ok (.int (xs.length : Int)) m
    | none => match d with
      | .str s => if s.length ≤ sizeLine then .ok (.int (s.length : Int)) m else .no
      | .ref n => match m[n]? with
        | some (.dic kvs) => .ok (.int (kvs.length : Int)) m
        | _ => .no
      | _ => .no
  | _ => .no
theorem call_lenDict : CallR X (.builtin "len") (fun xs H Q => ∃ a kvs, xs = [.ref a] ∧ H a = some (.dK kvs) ∧ Q (.int kvs.length) H) := by
  intro pins s σ H xs us Q I r h
  obtain ⟨a, kvs, rfl, hd, q⟩ := h
  obtain ⟨u, rfl, ru⟩ := r.one
  cases ru
  exact d_len I (.inl hd) fun t s' J => ⟨.int _, H, J, ⟨t, rfl⟩, q⟩
theorem ca_len : CaA X g (.builtin "len") bLen := ⟨_, caR_or call_len_seq (caR_or call_len_str call_lenDict), fun A H mem xs ds Q W R rs p => by
  unfold bLen at p
  split at p
  · rename_i d
    obtain ⟨v, rfl, rv⟩ := repL_one rs
    split at p
    · rename_i ys hi
      obtain ⟨b, a, vs, rfl, hs, l⟩ := items_sq R rv hi
      exact .inl ⟨a, vs, rfl, sqB_or hs, by rw [l.length]; exact p _ A H .refl R (.int _)⟩
    · cases rv with
      | str s =>
        dsimp only at p
        split at p
        · rename_i hl
          exact .inr (.inl ⟨s, rfl, hl, p _ A H .refl R (.int _)⟩)
        · exact p.elim
      | @ref n a ha =>
        dsimp only at p
        split at p
        · rename_i kvs hm
          obtain ⟨ks, e, q⟩ := R.cell _ _ _ ha hm
          exact .inr (.inr ⟨a, ks, rfl, e, by rw [q.length]; exact p _ A H .refl R (.int _)⟩)
        · exact p.elim
      | _ => exact p.elim
  · exact p.elim⟩
def bInt : FL := fun ds m => match ds with
  | [.int i] => .ok (.int i) m
  | [.bl b] => .ok (.int (if b then 1 else 0)) m
  | _ => .no
theorem ca_int : CaA X g (.type "int") bInt := ⟨_, call_int1, fun A H mem xs ds Q W R rs p => by
  unfold bInt at p
  split at p
  · obtain ⟨v, rfl, rv⟩ := repL_one rs; cases rv
    exact .inl ⟨_, rfl, p _ A H .refl R (.int _)⟩
  · obtain ⟨v, rfl, rv⟩ := repL_one rs; cases rv
    exact .inr ⟨_, rfl, p _ A H .refl R (.int _)⟩
  · exact p.elim⟩
def bAbs : FL := fun ds m => match ds with
  | [.int i] => .ok (.int (if i < 0 then -i else i)) m
  | _ => .no
theorem ca_abs : CaA X g (.builtin "abs") bAbs := ⟨_, call_abs, fun A H mem xs ds Q W R rs p => by
  unfold bAbs at p
  split at p
  · obtain ⟨v, rfl, rv⟩ := repL_one rs; cases rv
    exact ⟨_, rfl, p _ A H .refl R (.int _)⟩
  · exact p.elim⟩
/-- the ints of a row -/
def intsD : List D → Option (List Int)
  | [] => some []
  | .int i :: r => (intsD r).map (i :: ·)
  | _ :: _ => none
theorem intsD_v {A : List Addr} {H : Hp} : ∀ {ds : List D} {ns : List Int} {vs : List V}, intsD ds = some ns → RepL X.K g A H vs ds → vs = ns.map V.int
  | [], ns, vs, h, r => by cases h; cases r; rfl
  | d :: ds, ns, vs, h, r => by
    cases r with
    | cons h1 h2 =>
      cases d <;> try (cases h)
      rename_i i
      simp only [intsD, Option.map_eq_some_iff] at h
      obtain ⟨ms, e, rfl⟩ := h
      cases h1
      rw [List.map_cons, intsD_v e h2]
theorem intsD_map : ∀ ns : List Int, intsD (ns.map D.int) = some ns
  | [] => rfl
  | n :: ns => by simp [intsD, intsD_map ns]
def bSum : FL := fun ds m => match ds with
  | [.ref n] => match itemsD (.ref n) m with
    | some xs => match intsD xs with
      | some ns => .ok (.int ns.sum) m
      | none => .no
    | none => .no
  | _ => .no
theorem ca_sum (hc : X.calm = true) : CaA X g (.builtin "sum") bSum := ⟨_, cr_sum hc, fun A H mem xs ds Q W R rs p => by
  unfold bSum at p
  split at p
  · rename_i n
    obtain ⟨v, rfl, rv⟩ := repL_one rs
    split at p
    · rename_i ys hi
      split at p
      · rename_i ns hn
        cases rv with
        | @ref _ a ha =>
          unfold itemsD at hi
          dsimp only at hi
          have fin : ∀ vs, SqL X.K H a vs → RepL X.K g A H vs ys → rSum X.K [V.ref a] H Q := fun vs hs l => by
            have e := intsD_v hn l
            subst e
            exact ⟨a, ns, rfl, hs, p _ A H .refl R (.int _)⟩
          split at hi
          · rename_i hm
            cases hi
            obtain ⟨vs, e, q⟩ := R.cell _ _ _ ha hm
            exact fin vs (.inl (.inl e)) q
          · rename_i hm
            cases hi
            obtain ⟨vs, e, q⟩ := R.cell _ _ _ ha hm
            exact fin vs e.l q
          · cases hi
      · exact p.elim
    · exact p.elim
  · exact p.elim⟩
def bMinMax (f : Int → List Int → Int) : FL := fun ds m => match ds with
  | [.int i, .int j] => .ok (.int (f i [j])) m
  | [d] => match itemsD d m with
    | some xs => match intsD xs with
      | some (n :: ns) => .ok (.int (f n ns)) m
      | _ => .no
    | none => .no
  | _ => .no
abbrev bMin : FL := bMinMax fun n ns => ns.foldl min n
abbrev bMax : FL := bMinMax fun n ns => ns.foldl max n
theorem ca_mm {id : String} {f : Int → List Int → Int} {c : Int → Int → Int} (h1 : CallR X (.builtin id) (rMinB X.K f)) (h2 : CallR X (.builtin id) (fun xs H Q => ∃ i j, xs = [.int i, .int j] ∧ Q (.int (c i j)) H)) (hc : ∀ i j, c i j = f i [j]) : CaA X g (.builtin id) (bMinMax f) := ⟨_, caR_or h1 h2, fun A H mem xs ds Q W R rs p => by
  unfold bMinMax at p
  split at p
  · rename_i i j
    obtain ⟨v, w, rfl, rv, rw'⟩ := repL_two rs
    cases rv; cases rw'
    exact .inr ⟨i, j, rfl, by rw [hc]; exact p _ A H .refl R (.int _)⟩
  · obtain ⟨v, rfl, rv⟩ := repL_one rs
    split at p
    · rename_i ys hi
      split at p
      · rename_i n ns hn
        obtain ⟨b, a, vs, rfl, hs, l⟩ := items_sq R rv hi
        have e := intsD_v hn l
        subst e
        exact .inl ⟨b, a, n, ns, rfl, hs, p _ A H .refl R (.int _)⟩
      · exact p.elim
    · exact p.elim
  · exact p.elim⟩
theorem ca_min (hc : X.calm = true) (hu : X.A.units + 64 < cLine) : CaA X g (.builtin "min") bMin := ca_mm (cr_minB hc hu) (call_min2 hc) fun i j => by
  show (if j < i then j else i) = min i j
  rw [Int.min_def]; split <;> split <;> omega
theorem ca_max (hc : X.calm = true) (hu : X.A.units + 64 < cLine) : CaA X g (.builtin "max") bMax := ca_mm (cr_maxB hc hu) (call_max2 hc) fun i j => by
  show (if j > i then j else i) = max i j
  rw [Int.max_def]; split <;> split <;> omega
/-- THE sorted list -/
def insI (x : Int) : List Int → List Int
  | [] => [x]
  | y :: r => if x ≤ y then x :: y :: r else y :: insI x r
def sortI : List Int → List Int
  | [] => []
  | x :: r => insI x (sortI r)
theorem insI_perm (x : Int) : ∀ l, (insI x l).Perm (x :: l)
  | [] => .refl _
  | y :: r => by
    unfold insI
    split
    · exact .refl _
    · exact ((insI_perm x r).cons y).trans (.swap x y r)
theorem sortI_perm : ∀ l, (sortI l).Perm l
  | [] => .refl _
  | x :: r => (insI_perm x _).trans ((sortI_perm r).cons x)
theorem insI_sorted (x : Int) : ∀ l : List Int, l.Pairwise (· ≤ ·) → (insI x l).Pairwise (· ≤ ·)
  | [], _ => by simp [insI]
  | y :: r, h => by
    unfold insI
    split
    · rename_i hxy
      refine List.pairwise_cons.mpr ⟨fun z hz => ?_, h⟩
      rcases List.mem_cons.mp hz with rfl | hz
      · exact hxy
      · exact Int.le_trans hxy ((List.pairwise_cons.mp h).1 z hz)
    · rename_i hxy
      refine List.pairwise_cons.mpr ⟨fun z hz => ?_, insI_sorted x r (List.pairwise_cons.mp h).2⟩
      rcases List.mem_cons.mp ((insI_perm x r).mem_iff.mp hz) with rfl | hz
      · omega
      · exact (List.pairwise_cons.mp h).1 z hz
theorem sortI_sorted : ∀ l : List Int, (sortI l).Pairwise (· ≤ ·)
  | [] => .nil
  | x :: r => insI_sorted x _ (sortI_sorted r)
theorem sorted_uniq : ∀ {a b : List Int}, a.Perm b → a.Pairwise (· ≤ ·) → b.Pairwise (· ≤ ·) → a = b
  | [], b, p, _, _ => by rw [List.nil_perm.mp p]
  | x :: a, [], p, _, _ => by cases List.perm_nil.mp p
  | x :: a, y :: b, p, ha, hb => by
    have h1 := List.pairwise_cons.mp ha
    have h2 := List.pairwise_cons.mp hb
    have e : x = y := by
      have m1 : x ∈ y :: b := p.mem_iff.mp (List.mem_cons_self ..)
      have m2 : y ∈ x :: a := p.mem_iff.mpr (List.mem_cons_self ..)
      rcases List.mem_cons.mp m1 with e | m1
      · exact e
      · rcases List.mem_cons.mp m2 with e | m2
        · exact e.symm
        · exact Int.le_antisymm (h1.1 y m2) (h2.1 x m1)
    subst e
    rw [sorted_uniq (List.perm_cons x |>.mp p) h1.2 h2.2]
def bSorted : FL := fun ds m => match ds with
  | [d] => match itemsD d m with
    | some xs => match intsD xs with
      | some ns => .ok (.ref m.length) (m ++ [.lst ((sortI ns).map D.int)])
      | none => .no
    | none => .no
  | _ => .no
theorem repL_ints {A : List Addr} {H : Hp} : ∀ ns : List Int, RepL X.K g A H (ns.map V.int) (ns.map D.int)
  | [] => .nil
  | n :: ns => .cons (.int n) (repL_ints ns)
theorem ca_sorted : CaA X g (.builtin "sorted") bSorted := ⟨_, cr_sortedB, fun A H mem xs ds Q W R rs p => by
  unfold bSorted at p
  split at p
  · obtain ⟨v, rfl, rv⟩ := repL_one rs
    split at p
    · rename_i ys hi
      split at p
      · rename_i ns hn
        obtain ⟨b, a, vs, rfl, hs, l⟩ := items_sq R rv hi
        have e := intsD_v hn l
        subst e
        refine ⟨b, a, ns, rfl, hs, fun ns' q hp hs' hq => ?_⟩
        have e2 : ns' = sortI ns := sorted_uniq (hp.trans (sortI_perm ns).symm) hs' (sortI_sorted ns)
        subst e2
        obtain ⟨s2, r2, e2⟩ := R.alloc (o := .lst ((sortI ns).map V.int)) (c := .lst ((sortI ns).map D.int)) hq fun s => ⟨_, upd_same, repL_ints _⟩
        exact p _ _ _ s2 r2 (.ref e2)
      · exact p.elim
    · exact p.elim
  · exact p.elim⟩
def keyI : Key → D
  | .inl i => .int i
  | .inr x => .str x
def bList : FL := fun ds m => match ds with
  | [d] => match itemsD d m with
    | some xs => .ok (.ref m.length) (m ++ [.lst xs])
    | none => match d with
      | .ref n => match m[n]? with
        | some (.dic kvs) => .ok (.ref m.length) (m ++ [.lst (kvs.map fun kv => keyI kv.1)])
        | _ => .no
      | _ => .no
  | _ => .no
theorem repL_keys {A : List Addr} {H : Hp} : ∀ {ks : List (Key × V)} {kvs : List (Key × D)}, RepP X.K g A H ks kvs → RepL X.K g A H (ks.map fun kv => kV kv.1) (kvs.map fun kv => keyI kv.1)
  | _, _, .nil => .nil
  | _, _, .cons h l => .cons (by rename_i k _ _ _ _; cases k <;> constructor) (repL_keys l)
theorem ca_list (hc : X.calm = true) : CaA X g (.type "list") bList := ⟨_, caR_or call_list_of (call_list_dK hc), fun A H mem xs ds Q W R rs p => by
  unfold bList at p
  split at p
  · obtain ⟨v, rfl, rv⟩ := repL_one rs
    split at p
    · rename_i ys hi
      obtain ⟨b, a, vs, rfl, hs, l⟩ := items_sq R rv hi
      refine .inl ⟨a, vs, rfl, sqB_or hs, fun q hq => ?_⟩
      obtain ⟨s2, r2, e2⟩ := R.alloc (o := .lst vs) (c := .lst ys) hq fun s => ⟨_, upd_same, l.stab s⟩
      exact p _ _ _ s2 r2 (.ref e2)
    · cases rv with
      | @ref n a ha =>
        dsimp only at p
        split at p
        · rename_i kvs hm
          obtain ⟨ks, e, l⟩ := R.cell _ _ _ ha hm
          refine .inr ⟨a, ks, rfl, e, fun q hq => ?_⟩
          obtain ⟨s2, r2, e2⟩ := R.alloc (o := .lst (ks.map fun kv => kV kv.1)) (c := .lst (kvs.map fun kv => keyI kv.1)) hq fun s => ⟨_, upd_same, repL_keys (l.stab s)⟩
          exact p _ _ _ s2 r2 (.ref e2)
        · exact p.elim
      | _ => exact p.elim
  · exact p.elim⟩
def bTuple : FL := fun ds m => match ds with
  | [d] => match itemsD d m with
    | some xs => .ok (.tup xs) m
    | none => .no
  | _ => .no
theorem ca_tuple : CaA X g (.type "tuple") bTuple := ⟨_, call_tupleF, fun A H mem xs ds Q W R rs p => by
  unfold bTuple at p
  split at p
  · obtain ⟨v, rfl, rv⟩ := repL_one rs
    split at p
    · rename_i ys hi
      cases rv with
      | @tup a vs ds' hn l =>
        cases hi
        exact ⟨a, vs, rfl, .inr ⟨hn.t, p _ A H .refl R (.tup hn l)⟩⟩
      | @ref n a ha =>
        obtain ⟨vs, hL, l⟩ := items_ref R ha hi
        refine ⟨a, vs, rfl, .inl ⟨hL, fun q o ho hq => ?_⟩⟩
        obtain ⟨s2, r2⟩ := R.new (o := .frz o (.tup vs)) hq
        exact p _ A _ s2 r2 (.tup (.inl ⟨o, upd_same, ho⟩) (l.stab s2))
      | _ => cases hi
    · exact p.elim
  · exact p.elim⟩
end
end Ab
set_option Elab.async false
set_option linter.all false
set_option maxRecDepth 100000
namespace Ab
open PySem PySem.Spec PyProof.Rows L2

/-! ### all, any -/
def boolsD : List D → Option (List Bool)
  | [] => some []
  | .bl i :: r => (boolsD r).map (i :: ·)
  | _ :: _ => none
def bAll (q : Bool) : FL := fun ds m => match ds with
  | [.ref n] => match itemsD (.ref n) m with
    | some xs => match boolsD xs with
      | some bs => .ok (.bl (if q = true then bs.all id else bs.any id)) m
      | none => .no
    | none => .no
  | _ => .no
section
variable {X : Cx} {g : Glb} {γ : Gam} {e : Expr} {es : List Expr} {aa : AA} {p pos : Pos} {x : Str}
theorem boolsD_v {A : List Addr} {H : Hp} : ∀ {ds : List D} {ns : List Bool} {vs : List V}, boolsD ds = some ns → RepL X.K g A H vs ds → vs = ns.map V.bl
  | [], ns, vs, h, r => by cases h; cases r; rfl
  | d :: ds, ns, vs, h, r => by
    cases r with
    | cons h1 h2 =>
      cases d <;> try (cases h)
      rename_i i
      simp only [boolsD, Option.map_eq_some_iff] at h
      obtain ⟨ms, e, rfl⟩ := h
      cases h1
      rw [List.map_cons, boolsD_v e h2]
theorem boolsD_map : ∀ ns : List Bool, boolsD (ns.map D.bl) = some ns
  | [] => rfl
  | n :: ns => by simp [boolsD, boolsD_map ns]
theorem ca_all (hc : X.calm = true) : CaA X g (.builtin "all") (bAll true) := ⟨_, cr_all hc, fun A H mem xs ds Q W R rs p => by
  unfold bAll at p
  split at p
  · rename_i n
    obtain ⟨v, rfl, rv⟩ := repL_one rs
    split at p
    · rename_i ys hi
      split at p
      · rename_i ns hn
        cases rv with
        | @ref _ a ha =>
          obtain ⟨vs, hs, l⟩ := items_ref R ha hi
          have e := boolsD_v hn l
          subst e
          exact ⟨a, ns, rfl, hs, p _ A H .refl R (.bl _)⟩
      · exact p.elim
    · exact p.elim
  · exact p.elim⟩
theorem ca_any (hc : X.calm = true) : CaA X g (.builtin "any") (bAll false) := ⟨_, cr_any hc, fun A H mem xs ds Q W R rs p => by
  unfold bAll at p
  split at p
  · rename_i n
    obtain ⟨v, rfl, rv⟩ := repL_one rs
    split at p
    · rename_i ys hi
      split at p
      · rename_i ns hn
        cases rv with
        | @ref _ a ha =>
          obtain ⟨vs, hs, l⟩ := items_ref R ha hi
          have e := boolsD_v hn l
          subst e
          exact ⟨a, ns, rfl, hs, p _ A H .refl R (.bl _)⟩
      · exact p.elim
    · exact p.elim
  · exact p.elim⟩

/-! ### methods -/
def eMt (ty : D → Mem → Bool) (F : D → FL) (a : AE) (aa : AA) : AE := fun env m => (a env m).bind fun x m => if ty x m = true then (aa env m).bind fun xs m => F x xs m else .no
def isL (d : D) (m : Mem) : Bool := match d with
  | .ref n => match m[n]? with
    | some (.lst _) => true
    | some (.rol _) => true
    | _ => false
  | _ => false
def isDc (d : D) (m : Mem) : Bool := match d with
  | .ref n => match m[n]? with
    | some (.dic _) => true
    | _ => false
  | _ => false
def isS (d : D) (_ : Mem) : Bool := match d with
  | .str _ => true
  | _ => false
def isT (d : D) (_ : Mem) : Bool := match d with
  | .tup _ => true
  | _ => false
theorem isL_ty {A : List Addr} {H : Hp} {m : Mem} {v : V} {d : D} (R : Rel X.K g A H m) (rv : Rep X.K g A H v d) (h : isL d m = true) : tyV X.K "list" v H := by
  unfold isL at h
  cases rv with
  | @ref n a ha =>
    dsimp only at h
    split at h
    · rename_i ds hm
      obtain ⟨vs, e, _⟩ := R.cell _ _ _ ha hm
      exact .inl ⟨rfl, vs, .inl (.inl e)⟩
    · rename_i ds hm
      obtain ⟨vs, e, _⟩ := R.cell _ _ _ ha hm
      exact .inl ⟨rfl, vs, e.l⟩
    · cases h
  | _ => cases h
theorem isDc_ty {A : List Addr} {H : Hp} {m : Mem} {v : V} {d : D} (R : Rel X.K g A H m) (rv : Rep X.K g A H v d) (h : isDc d m = true) : tyV X.K "dict" v H := by
  unfold isDc at h
  cases rv with
  | @ref n a ha =>
    dsimp only at h
    split at h
    · rename_i ds hm
      obtain ⟨vs, e, _⟩ := R.cell _ _ _ ha hm
      exact .inr (.inr (.inl ⟨rfl, .inl ⟨vs, e⟩⟩))
    · cases h
  | _ => cases h
theorem isS_ty {A : List Addr} {H : Hp} {m : Mem} {v : V} {d : D} (R : Rel X.K g A H m) (rv : Rep X.K g A H v d) (h : isS d m = true) : tyV X.K "str" v H := by
  unfold isS at h
  cases rv with
  | str s => rfl
  | _ => cases h
section
variable {o : Expr} {a : AE} {name : Str} {apos cpos : Pos} {T id : String} {F : D → FL} {ty : D → Mem → Bool}
theorem se_bm (pa : PlainAttrs T) (slot : Slot T name id) (hty : typeOf (.builtin id) = pure (.type "method_descriptor")) (hm : MtA X g T id F) (hT : ∀ A H m v d, Rel X.K g A H m → Rep X.K g A H v d → ty d m = true → tyV X.K T v H) (ho : SE X g γ o a) (ha : SA X g γ (e :: es) aa)
    (hbase : attributeBase o name X.env (eval o X.env) = eval o X.env := by rfl)
    (hfew : ((backTo cpos (starEach (e :: es) X.env)).all (fun x => !x.1) && (backToKw cpos (keywordEach [] X.env)).all (fun x => x.1.isSome)
      && decide ((e :: es).length + ([] : List Keyword).length + (if ([] : List Keyword).isEmpty then 0 else 1) < 30)) = true := by rfl)
    (hline : (apos.endLine == cpos.line) = true := by rfl) (hs : starEach (e :: es) X.env = (false, eval e X.env) :: starEach es X.env := by rfl) (hplain : (backTo cpos (starEach es X.env)).any (·.1) = false := by rfl) :
    SE X g γ (.Call (.Attribute o name apos) (e :: es) [] cpos) (eMt ty F a aa) := ⟨fun W tk => by
  obtain ⟨r, h1, h2⟩ := hm.out
  obtain ⟨to, po, qo⟩ := ho.out W tk
  obtain ⟨t, pa', q⟩ := ha.out W tk
  refine ⟨_, pe_bm pa slot hty h1 po pa' hbase hfew hline hs hplain, fun σ env A H mem Q hg he hr hp => ?_⟩
  refine qo σ env A H mem _ hg he hr (hp.bnd fun v A1 H1 d m s1 r1 rv p1 => ?_)
  split at p1
  · rename_i ht
    refine ⟨hT A1 H1 m v d r1 rv ht, ?_⟩
    exact q σ env A1 H1 m _ (hg.pre s1.pre) (he.stab s1) r1 (p1.bnd fun vs A2 H2 ds m2 s2 r2 rvs p2 => h2 A2 H2 m2 v d vs ds Q _ r2 (rv.stab s2) rvs p2)
  · exact p1.elim⟩
theorem se_bm0 (pa : PlainAttrs T) (slot : Slot T name id) (hty : typeOf (.builtin id) = pure (.type "method_descriptor")) (hm : MtA X g T id F) (hT : ∀ A H m v d, Rel X.K g A H m → Rep X.K g A H v d → ty d m = true → tyV X.K T v H) (ho : SE X g γ o a)
    (hbase : attributeBase o name X.env (eval o X.env) = eval o X.env := by rfl) (hline : (apos.endLine == cpos.line) = true := by rfl) :
    SE X g γ (.Call (.Attribute o name apos) [] [] cpos) (eMt ty F a aNil) := ⟨fun W tk => by
  obtain ⟨r, h1, h2⟩ := hm.out
  obtain ⟨to, po, qo⟩ := ho.out W tk
  refine ⟨_, pe_bm0 pa slot hty h1 po hbase hline, fun σ env A H mem Q hg he hr hp => ?_⟩
  refine qo σ env A H mem _ hg he hr (hp.bnd fun v A1 H1 d m s1 r1 rv p1 => ?_)
  split at p1
  · rename_i ht
    exact ⟨hT A1 H1 m v d r1 rv ht, h2 A1 H1 m v d [] [] Q _ r1 rv .nil p1⟩
  · exact p1.elim⟩
theorem se_tm (pa : PlainAttrs "tuple") (slot : Slot "tuple" name id) (hty : typeOf (.builtin id) = pure (.type "method_descriptor")) (hm : MtA X g "tuple" id F) (ho : SE X g γ o a) (ha : SA X g γ (e :: es) aa)
    (hbase : attributeBase o name X.env (eval o X.env) = eval o X.env := by rfl)
    (hfew : ((backTo cpos (starEach (e :: es) X.env)).all (fun x => !x.1) && (backToKw cpos (keywordEach [] X.env)).all (fun x => x.1.isSome) && decide ((e :: es).length + ([] : List Keyword).length + (if ([] : List Keyword).isEmpty then 0 else 1) < 30)) = true := by rfl)
    (hline : (apos.endLine == cpos.line) = true := by rfl) (hs : starEach (e :: es) X.env = (false, eval e X.env) :: starEach es X.env := by rfl) (hplain : (backTo cpos (starEach es X.env)).any (·.1) = false := by rfl) :
    SE X g γ (.Call (.Attribute o name apos) (e :: es) [] cpos) (eMt isT F a aa) := ⟨fun W tk => by
  obtain ⟨r, h1, h2⟩ := hm.out
  obtain ⟨to, po, qo⟩ := ho.out W tk
  obtain ⟨t, pa', q⟩ := ha.out W tk
  refine ⟨_, pe_tm pa slot hty h1 po pa' hbase hfew hline hs hplain, fun σ env A H mem Q hg he hr hp => ?_⟩
  refine qo σ env A H mem _ hg he hr (hp.bnd fun v A1 H1 d m s1 r1 rv p1 => ?_)
  split at p1
  · rename_i ht
    cases rv with
    | @tup a vs ds hn l =>
      refine ⟨⟨a, vs, rfl, hn⟩, ?_⟩
      exact q σ env A1 H1 m _ (hg.pre s1.pre) (he.stab s1) r1 (p1.bnd fun ws A2 H2 es m2 s2 r2 rvs p2 => h2 A2 H2 m2 _ _ ws es Q _ r2 ((Rep.tup hn l).stab s2) rvs p2)
    | _ => cases ht
  · exact p1.elim⟩
end
def mAppend (x : D) : FL := fun xs m => match x, xs with
  | .ref n, [y] => match m[n]? with
    | some (.lst ds) => if ds.length < sizeLine then .ok .non (m.set n (.lst (ds ++ [y]))) else .no
    | _ => .no
  | _, _ => .no
theorem ma_append : MtA X g "list" "list.append" mAppend := ⟨_, mt_append, fun A H mem x dx xs ds Q W R rx rs p => by
  unfold mAppend at p
  split at p
  · rename_i n y
    obtain ⟨v, rfl, rv⟩ := repL_one rs
    split at p
    · rename_i zs hm
      split at p
      · rename_i hl
        cases rx with
        | @ref _ a ha =>
          obtain ⟨vs, e, q⟩ := R.cell _ _ _ ha hm
          refine ⟨a, vs, v, rfl, rfl, e, by rw [q.length]; exact hl, ?_⟩
          obtain ⟨s2, r2⟩ := R.write (o' := .lst (vs ++ [v])) (c' := .lst (zs ++ [y])) hm ha rfl rfl fun s => ⟨_, upd_same, (q.stab s).append (.cons (rv.stab s) .nil)⟩
          exact p _ _ _ s2 r2 .non
      · exact p.elim
    · exact p.elim
  · exact p.elim⟩
def mExtend (x : D) : FL := fun xs m => match x, xs with
  | .ref n, [.ref k] => match m[n]?, m[k]? with
    | some (.lst ds), some (.lst es) => if ds.length + es.length ≤ sizeLine then .ok .non (m.set n (.lst (ds ++ es))) else .no
    | _, _ => .no
  | _, _ => .no
theorem ma_extend : MtA X g "list" "list.extend" mExtend := ⟨_, mt_extend, fun A H mem x dx xs ds Q W R rx rs p => by
  unfold mExtend at p
  split at p
  · rename_i n k
    obtain ⟨v, rfl, rv⟩ := repL_one rs
    split at p
    · rename_i zs ys hm hk
      split at p
      · rename_i hl
        cases rx with
        | @ref _ a ha =>
          cases rv with
          | @ref _ b hb =>
            obtain ⟨vs, e, q⟩ := R.cell _ _ _ ha hm
            obtain ⟨ws, e2, q2⟩ := R.cell _ _ _ hb hk
            refine ⟨a, b, vs, ws, rfl, rfl, e, e2, by rw [q.length, q2.length]; exact hl, ?_⟩
            obtain ⟨s2, r2⟩ := R.write (o' := .lst (vs ++ ws)) (c' := .lst (zs ++ ys)) hm ha rfl rfl fun s => ⟨_, upd_same, (q.stab s).append (q2.stab s)⟩
            exact p _ _ _ s2 r2 .non
      · exact p.elim
    · exact p.elim
  · exact p.elim⟩
def mPop (x : D) : FL := fun xs m => match x, xs with
  | .ref n, [] => match m[n]? with
    | some (.lst ds) => match ds[ds.length - 1]? with
      | some d => .ok d (m.set n (.lst ds.dropLast))
      | none => .no
    | _ => .no
  | .ref n, [.int i] => match m[n]? with
    | some (.lst ds) => if -(2 ^ 63) ≤ i ∧ i < 2 ^ 63 then match seqIndex? i ds.length with
      | some k => match ds[k]? with
        | some d => .ok d (m.set n (.lst (ds.eraseIdx k)))
        | none => .no
      | none => .no
      else .no
    | _ => .no
  | _, _ => .no
theorem ma_pop : MtA X g "list" "list.pop" mPop := ⟨_, MtR.or mt_pop mt_popAt, fun A H mem x dx xs ds Q W R rx rs p => by
  unfold mPop at p
  split at p
  · rename_i n
    cases rs
    split at p
    · rename_i zs hm
      split at p
      · rename_i d hd
        cases rx with
        | @ref _ a ha =>
          obtain ⟨vs, e, q⟩ := R.cell _ _ _ ha hm
          obtain ⟨v, hv, rv⟩ := q.get hd
          refine .inl ⟨a, vs, v, rfl, rfl, e, by rw [q.length]; exact hv, ?_⟩
          obtain ⟨s2, r2⟩ := R.write (o' := .lst vs.dropLast) (c' := .lst zs.dropLast) hm ha rfl rfl fun s => ⟨_, upd_same, (q.stab s).dropLast⟩
          exact p _ _ _ s2 r2 (rv.stab s2)
      · exact p.elim
    · exact p.elim
  · rename_i n i
    obtain ⟨v, rfl, rv⟩ := repL_one rs
    cases rv
    split at p
    · rename_i zs hm
      split at p
      · rename_i hb
        split at p
        · rename_i k hk
          split at p
          · rename_i d hd
            cases rx with
            | @ref _ a ha =>
              obtain ⟨vs, e, q⟩ := R.cell _ _ _ ha hm
              obtain ⟨v, hv, rv⟩ := q.get hd
              refine .inr ⟨a, vs, i, k, v, rfl, rfl, e, hb.1, hb.2, by rw [q.length]; exact hk, hv, ?_⟩
              obtain ⟨s2, r2⟩ := R.write (o' := .lst (vs.eraseIdx k)) (c' := .lst (zs.eraseIdx k)) hm ha rfl rfl fun s => ⟨_, upd_same, (q.stab s).eraseIdx k⟩
              exact p _ _ _ s2 r2 (rv.stab s2)
          · exact p.elim
        · exact p.elim
      · exact p.elim
    · exact p.elim
  · exact p.elim⟩
def mIndex (x : D) : FL := fun xs m => match xs with
  | [y] => match toP m DEEP x, toP m DEEP y with
    | some (.list ps), some q => if SeqAt.shaped (.list ps) = true ∧ SeqAt.shaped q = true then match ps.findIdx? fun z => PyData.eqv z q with
      | some j => .ok (.int (j : Int)) m
      | none => .no
      else .no
    | _, _ => .no
  | _ => .no
theorem toP_list {A : List Addr} {H : Hp} {m : Mem} {v : V} {d : D} {ps : List PyData} (rv : Rep X.K g A H v d) (h : toP m DEEP d = some (.list ps)) : ∃ a, v = .ref a := by
  cases rv with
  | @ref n a ha => exact ⟨a, rfl⟩
  | tup _ _ => simp only [toP, Option.map_eq_some_iff] at h; obtain ⟨_, _, h⟩ := h; cases h
  | _ => simp [toP] at h
theorem ma_index (hu : X.A.units + 65 < cLine) : MtA X g "list" "list.index" mIndex := ⟨_, mt_indexD hu, fun A H mem x dx xs ds Q W R rx rs p => by
  unfold mIndex at p
  split at p
  · rename_i y
    obtain ⟨v, rfl, rv⟩ := repL_one rs
    split at p
    · rename_i ps q e1 e2
      split at p
      · rename_i hs
        split at p
        · rename_i j hj
          obtain ⟨a, rfl⟩ := toP_list rx e1
          rw [List.findIdx?_eq_some_iff_getElem] at hj
          obtain ⟨hl, h1, h2⟩ := hj
          refine ⟨a, v, q, ps, j, ps[j], rfl, rfl, toP_dp R _ _ _ _ rx e1, toP_dp R _ _ _ _ rv e2, hs.1, hs.2, List.getElem?_eq_getElem hl, h1, fun k z hk hz => ?_, p _ A H .refl R (.int _)⟩
          obtain ⟨hkl, ez⟩ := List.getElem?_eq_some_iff.mp hz
          have := h2 k hk
          rw [ez] at this
          simpa using this
        · exact p.elim
      · exact p.elim
    · exact p.elim
  · exact p.elim⟩
def mCount (x : D) : FL := fun xs m => match xs with
  | [y] => match toP m DEEP x, toP m DEEP y with
    | some (.list ps), some q => if SeqAt.shaped (.list ps) = true ∧ SeqAt.shaped q = true then .ok (.int ((ps.countP fun z => PyData.eqv z q : Nat) : Int)) m else .no
    | _, _ => .no
  | _ => .no
theorem ma_count (hu : X.A.units + 65 < cLine) : MtA X g "list" "list.count" mCount := ⟨_, mt_countD hu, fun A H mem x dx xs ds Q W R rx rs p => by
  unfold mCount at p
  split at p
  · rename_i y
    obtain ⟨v, rfl, rv⟩ := repL_one rs
    split at p
    · rename_i ps q e1 e2
      split at p
      · rename_i hs
        obtain ⟨a, rfl⟩ := toP_list rx e1
        exact ⟨a, v, q, ps, rfl, rfl, toP_dp R _ _ _ _ rx e1, toP_dp R _ _ _ _ rv e2, hs.1, hs.2, p _ A H .refl R (.int _)⟩
      · exact p.elim
    · exact p.elim
  · exact p.elim⟩
def mTIndex (x : D) : FL := fun xs m => match x, xs with
  | .tup ds, [.int k] => match intsD ds with
    | some ns => if k ∈ ns then .ok (.int (ns.idxOf k : Nat)) m else .no
    | none => .no
  | _, _ => .no
theorem ma_tindex : MtA X g "tuple" "tuple.index" mTIndex := ⟨_, mt_tupIndex, fun A H mem x dx xs ds Q W R rx rs p => by
  unfold mTIndex at p
  split at p
  · rename_i ys k
    obtain ⟨v, rfl, rv⟩ := repL_one rs
    cases rv
    split at p
    · rename_i ns hn
      split at p
      · rename_i hk
        cases rx with
        | @tup a vs _ hs l =>
          have e := intsD_v hn l
          subst e
          exact ⟨a, ns, k, rfl, rfl, hs.t, hk, p _ A H .refl R (.int _)⟩
      · exact p.elim
    · exact p.elim
  · exact p.elim⟩

/-! ### isinstance -/
def tyN (d : D) (m : Mem) : Option String := match d with
  | .non => some "NoneType"
  | .bl _ => some "bool"
  | .int _ => some "int"
  | .str _ => some "str"
  | .tup _ => some "tuple"
  | .ref n => match m[n]? with
    | some (.lst _) => some "list"
    | some (.rol _) => some "list"
    | some (.dic _) => some "dict"
    | _ => none
  | _ => none
def eIsi (T : String) (a : AE) : AE := fun env m => (a env m).bind fun d m => match tyN d m with
  | some t => match kitB t T with
    | some b => .ok (.bl b) m
    | none => .no
  | none => .no
theorem tyN_x {A : List Addr} {H : Hp} {m : Mem} {v : V} {d : D} {t : String} (R : Rel X.K g A H m) (rv : Rep X.K g A H v d) (h : tyN d m = some t) : TyX X.K H v (.type t) := by
  unfold tyN at h
  cases rv with
  | non => cases h; exact .base .non
  | bl b => cases h; exact .base (.bl b)
  | int b => cases h; exact .base (.int b)
  | str b => cases h; exact .base (.str b)
  | fn f => cases h
  | @tup a vs ds hn l =>
    cases h
    rcases hn with ⟨o, e, _⟩ | ⟨o, its, n, e, c, _⟩
    · exact .fTuple e
    · exact .kTuple e c
  | @ref n a ha =>
    dsimp only at h
    split at h
    · rename_i ds hm
      cases h
      obtain ⟨vs, e, _⟩ := R.cell _ _ _ ha hm
      exact .base (.lst e)
    · rename_i ds hm
      cases h
      obtain ⟨vs, e, _⟩ := R.cell _ _ _ ha hm
      rcases e with ⟨o, e⟩ | ⟨o, its, n, e, c, _⟩
      · exact .base (.frz e)
      · exact .kList e c
    · rename_i ds hm
      cases h
      obtain ⟨vs, e, _⟩ := R.cell _ _ _ ha hm
      exact .base (.dK e)
    · cases h
theorem se_isi {T : String} {ex : Expr} {a : AE} {tp : Pos} {t : Str} (hm : X.mg "isinstance" = none) (hT : X.mg t = none) (hv : bootBuiltins t = some (.type T)) (he : SE X g γ ex a) (hg : L2.Gl X "isinstance" := by rfl) (hg2 : L2.Gl X t := by rfl) (hn : t ≠ "__name__" := by decide) (hd : (t == ("__debug__" : Str)) = false := by decide)
    (hvi : bootBuiltins "isinstance" = some (.builtin "isinstance") := by decide +kernel)
    (hs : starEach [ex, .Name t tp] X.env = (false, eval ex X.env) :: starEach [.Name t tp] X.env := by rfl) (hpl : (backTo pos (starEach [.Name t tp] X.env)).any (·.1) = false := by rfl)
    (hs2 : starEach [.Name t tp] X.env = (false, eval (.Name t tp) X.env) :: starEach [] X.env := by rfl) : SE X g γ (.Call (.Name "isinstance" p) [ex, .Name t tp] [] pos) (eIsi T a) := ⟨fun W tk => by
  obtain ⟨te, pe, q⟩ := he.out W tk
  refine ⟨_, pe_callB call_isi hg hm hvi (pa_cons pe (pa_cons (pe_bltn (v := .ty T) hg2 hT hv rfl hn hd) pa_nil hs2) hs) (by decide) (by decide) hs hpl, fun σ env A H mem Q hgm her hr hp => ?_⟩
  refine q σ env A H mem _ hgm her hr (hp.bnd fun v A1 H1 d m s1 r1 rv p1 => ?_)
  split at p1
  · rename_i t' ht
    split at p1
    · rename_i b hb
      exact ⟨v, .ty T, .type t', .type T, b, rfl, .ty T, tyN_x r1 rv ht, kit_ty hb, p1 _ A1 H1 .refl r1 (.bl b)⟩
    · exact p1.elim
  · exact p1.elim⟩
end
end Ab
set_option Elab.async false
set_option linter.all false
set_option maxRecDepth 100000
namespace Ab
open PySem PySem.Spec PyProof.Rows L2
def aLen (aa : AA) (n : Nat) : Prop := ∀ env m ds m', aa env m = .ok ds m' → ds.length = n
theorem al_nil : aLen aNil 0 := fun _ _ _ _ h => by cases h; rfl
theorem al_cons {a : AE} {r : AA} {n : Nat} (h : aLen r n) : aLen (aCons a r) (n + 1) := fun env m ds m' e => by
  unfold aCons at e
  cases e1 : a env m with
  | ok d m1 =>
    rw [e1] at e
    dsimp only [R.bind] at e
    cases e2 : r env m1 with
    | ok es m2 =>
      rw [e2] at e
      cases e
      simp [h env m1 es _ e2]
    | er x m2 => rw [e2] at e; cases e
    | no => rw [e2] at e; cases e
  | er x m1 => rw [e1] at e; cases e
  | no => rw [e1] at e; cases e
section
variable {X : Cx} {g : Glb} {γ : Gam} {e : Expr} {es : List Expr} {aa : AA} {p pos : Pos} {x : Str}
theorem se_globI {i : Int} (h : ∃ t, X.mg x = some (.int i t)) (hg : L2.Gl X x := by rfl) (hd : (x == ("__debug__" : Str)) = false := by decide) : SE X g γ (.Name x pos) (eC (.int i)) := by
  obtain ⟨t, h⟩ := h
  exact se_glob (v := .int i) h ⟨t, rfl⟩ (fun _ _ => .int i) hg hd
theorem se_fn {k n : Nat} {af : AF} (F : FnA X.prog X.w X.K X.mg X.base g k x n af) (hg : L2.Gl X x := by rfl) (hd : (x == ("__debug__" : Str)) = false := by decide) : SE X g γ (.Name x pos) (eC (.fn x)) := by
  obtain ⟨f, fd, ps, hm, hf, _⟩ := F.ex
  exact se_glob (v := .ref f) hm rfl (fun A H => by rw [← hf]; exact .fn x) hg hd
/-- the facts of a context that its body's rules ask -/
structure CxA (X : Cx) (k : Nat) : Prop where
  calm : X.calm = true
  nd : X.N.Nodup
  own : PassesOwn (model X.prog X.w) X.A X.env X.xe
  hr : Room k X.A
end
section
variable {X : Cx} {g : Glb} {γ : Gam} {a b c e o value : Expr} {es : List Expr} {ia ib ic : AE} {aa : AA} {p pos tpos apos : Pos} {x f : Str}
theorem chain_pre {op op' : CmpOp} {F F' : F2} {W : WX} {σ : L2.St} {env : Env'} {A : List Addr} {H : Hp} {mem : Mem} {Q : VK} {ta tb tc : TE} {r r' : R2} (hg : γ.Ok A) (he : EnvR X.K g A H σ env) (hr : Rel X.K g A H mem)
    (h2 : ∀ A H mem x y dx dy Q W, Rel X.K g A H mem → Rep X.K g A H x dx → Rep X.K g A H y dy → Post X.K g (Rep X.K g) A H (F dx dy mem) Q W → r x y H Q)
    (h2' : ∀ A H mem x y dx dy Q W, Rel X.K g A H mem → Rep X.K g A H x dx → Rep X.K g A H y dy → Post X.K g (Rep X.K g) A H (F' dx dy mem) Q W → r' x y H Q)
    (qa : ∀ σ env A H mem Q, γ.Ok A → EnvR X.K g A H σ env → Rel X.K g A H mem → Post X.K g (Rep X.K g) A H (ia env mem) Q (fun c d H' => W c d σ H') → ta σ H Q)
    (qb : ∀ σ env A H mem Q, γ.Ok A → EnvR X.K g A H σ env → Rel X.K g A H mem → Post X.K g (Rep X.K g) A H (ib env mem) Q (fun c d H' => W c d σ H') → tb σ H Q)
    (qc : ∀ σ env A H mem Q, γ.Ok A → EnvR X.K g A H σ env → Rel X.K g A H mem → Post X.K g (Rep X.K g) A H (ic env mem) Q (fun c d H' => W c d σ H') → tc σ H Q)
    (hp : Post X.K g (Rep X.K g) A H (eChain F F' ia ib ic env mem) Q (fun c d H' => W c d σ H')) : tChain r r' ta tb tc σ H Q := by
  unfold eChain at hp
  refine qa σ env A H mem _ hg he hr (hp.bnd fun v A1 H1 d m s1 r1 rv p1 => ?_)
  refine qb σ env A1 H1 m _ (hg.pre s1.pre) (he.stab s1) r1 (p1.bnd fun v2 A2 H2 d2 m2 s2 r2 rv2 p2 => ?_)
  have p2' : Post X.K g (Rep X.K g) A2 H2 ((F d d2 m2).bind fun z m => (asB z m).bind fun k m => if k = true then (ic env m).bind fun z m => F' d2 z m else .ok (.bl false) m) Q (fun c d H' => W c d σ H') := by
    have e : (((F d d2 m2).bind asB).bind fun k m => if k = true then (ic env m).bind fun z m => F' d2 z m else .ok (.bl false) m) = ((F d d2 m2).bind fun z m => (asB z m).bind fun k m => if k = true then (ic env m).bind fun z m => F' d2 z m else .ok (.bl false) m) := by cases F d d2 m2 <;> rfl
    rw [← e]; exact p2
  refine h2 A2 H2 m2 v v2 d d2 _ _ r2 (rv.stab s2) rv2 (p2'.bnd fun z A3 H3 dz m3 s3 r3 rz p3 => ?_)
  unfold asB at p3
  cases rz with
  | bl k =>
    refine ⟨k, rfl, ?_⟩
    cases k with
    | false => rw [if_neg Bool.false_ne_true]; exact p3 _ A3 H3 .refl r3 (.bl _)
    | true =>
      rw [if_pos rfl]
      refine qc σ env A3 H3 m3 _ (hg.pre (s1.trans (s2.trans s3)).pre) (he.stab (s1.trans (s2.trans s3))) r3 (Post.bnd p3 fun w A4 H4 dw m4 s4 r4 rw' p4 => ?_)
      exact h2' A4 H4 m4 v2 w d2 dw _ _ r4 (rv2.stab (s3.trans s4)) rw' p4
  | _ => exact p3.elim
theorem se_chain {op op' : CmpOp} {F F' : F2} (ho : OpA X g (compareOp op) F) (ho' : OpA X g (compareOp op') F') (ha : SE X g γ a ia) (hb : SE X g γ b ib) (hc : SE X g γ c ic) (hm : lastMarks [op, op'] [b, c] = false := by with_unfolding_all rfl) :
    SE X g γ (.Compare a [op, op'] [b, c] pos) (eChain F F' ia ib ic) := ⟨fun W tk => by
  obtain ⟨r, h1, h2⟩ := ho.out
  obtain ⟨r', h1', h2'⟩ := ho'.out
  obtain ⟨ta, pa, qa⟩ := ha.out W tk
  obtain ⟨tb, pb, qb⟩ := hb.out W tk
  obtain ⟨tc, pc, qc⟩ := hc.out W tk
  exact ⟨_, pe_chain h1 h1' pa pb pc hm, fun σ env A H mem Q hg he hr hp => chain_pre (op := op) (op' := op') hg he hr h2 h2' qa qb qc hp⟩⟩
theorem st_chain {op op' : CmpOp} {F F' : F2} (ho : OpA X g (compareOp op) F) (ho' : OpA X g (compareOp op') F') (ha : SE X g γ a ia) (hb : SE X g γ b ib) (hc : SE X g γ c ic) (hm : lastMarks [op, op'] [b, c] = false := by with_unfolding_all rfl) :
    ST X g γ (.Compare a [op, op'] [b, c] pos) (tVal (eChain F F' ia ib ic)) := ⟨fun W tk => by
  obtain ⟨r, h1, h2⟩ := ho.out
  obtain ⟨r', h1', h2'⟩ := ho'.out
  obtain ⟨ta, pa, qa⟩ := ha.out W tk
  obtain ⟨tb, pb, qb⟩ := hb.out W tk
  obtain ⟨tc, pc, qc⟩ := hc.out W tk
  refine ⟨_, pt_chain h1 h1' pa pb pc hm, fun σ env A H mem Q hg he hr hp => ?_⟩
  refine chain_pre (op := op) (op' := op') hg he hr h2 h2' qa qb qc ?_
  exact Post.bnd hp fun v A1 H1 d m s1 r1 rv p1 => asB_in rv r1 p1⟩

/-! ### displays of dicts -/
abbrev ADp := Env' → Mem → R (List (Key × D))
def dpNil : ADp := fun _ m => .ok [] m
def dpCons (k v : AE) (r : ADp) : ADp := fun env m => (k env m).bind fun x m => (v env m).bind fun y m => match keyD x with
  | some kk => (r env m).bind fun l m => .ok ((kk, y) :: l) m
  | none => .no
def mergeD (kvs more : List (Key × D)) : List (Key × D) := more.foldl (fun acc kv => putD acc kv.1 kv.2) kvs
def eDisp (d : ADp) : AE := fun env m => (d env (m ++ [.dic []])).bind fun kvs m2 => match m2[m.length]? with
  | some (.dic []) => if kvs.length ≤ 15 then .ok (.ref m.length) (m2.set m.length (.dic (mergeD [] kvs))) else .no
  | _ => .no
structure SPs (X : Cx) (g : Glb) (γ : Gam) (pos : Pos) (keys : List (Option Expr)) (values : List Expr) (d : ADp) : Prop where
  out : ∀ W : WX, Takes X W → ∃ trs, PPs X pos keys values trs ∧ ∀ σ env A H mem (Q : List (V × V) → Hp → Prop), γ.Ok A → EnvR X.K g A H σ env → Rel X.K g A H mem →
    Post X.K g (fun A H (ps : List (V × V)) kvs => ∃ ks : List (Key × V), ps = ks.map (fun kv => (kV kv.1, kv.2)) ∧ RepP X.K g A H ks kvs) A H (d env mem) Q (fun c d H' => W c d σ H') → tPairs trs σ H Q
theorem spp_nil : SPs X g γ pos [] [] dpNil := ⟨fun W tk => ⟨_, pps_nil, fun σ env A H mem Q hg he hr hp => hp [] A H .refl hr ⟨[], rfl, .nil⟩⟩⟩
theorem spp_cons {k v : Expr} {ks : List (Option Expr)} {vs : List Expr} {ik iv : AE} {d : ADp} (hk : SE X g γ k ik) (hv : SE X g γ v iv) (hr : SPs X g γ pos ks vs d) : SPs X g γ pos (some k :: ks) (v :: vs) (dpCons ik iv d) := ⟨fun W tk => by
  obtain ⟨t1, p1, q1⟩ := hk.out W tk
  obtain ⟨t2, p2, q2⟩ := hv.out W tk
  obtain ⟨t3, p3, q3⟩ := hr.out W tk
  refine ⟨_, pps_cons p1 p2 p3, fun σ env A H mem Q hg he hr hp => ?_⟩
  refine q1 σ env A H mem _ hg he hr (Post.bnd hp fun x A1 H1 dx m s1 r1 rx p => ?_)
  refine q2 σ env A1 H1 m _ (hg.pre s1.pre) (he.stab s1) r1 (Post.bnd p fun y A2 H2 dy m2 s2 r2 ry p => ?_)
  split at p
  · rename_i kk hkk
    refine q3 σ env A2 H2 m2 _ (hg.pre (s1.trans s2).pre) (he.stab (s1.trans s2)) r2 (Post.bnd p fun ps A3 H3 l m3 s3 r3 rl p => ?_)
    obtain ⟨ks, rfl, rk⟩ := rl
    have ex := keyD_kV rx hkk
    subst ex
    exact p _ A3 H3 .refl r3 ⟨(kk, y) :: ks, rfl, .cons (ry.stab s3) rk⟩
  · exact p.elim⟩
theorem merge_rep {A : List Addr} {H : Hp} : ∀ {vs : List (Key × V)} {ds : List (Key × D)} {xs : List (Key × V)} {ys : List (Key × D)}, RepP X.K g A H vs ds → RepP X.K g A H xs ys → RepP X.K g A H (mergeK xs vs) (mergeD ys ds)
  | _, _, _, _, .nil, r => r
  | _, _, _, _, .cons (k := k) (v := v) (d := d) (vs := vs) (ds := ds) h l, r => by
    show RepP X.K g A H (mergeK (putK _ k v) vs) (mergeD (putD _ k d) ds)
    exact merge_rep l (r.put _ h)
theorem se_disp {keys : List (Option Expr)} {values : List Expr} {d : ADp} (h : SPs X g γ pos keys values d) (hall : keys.all (·.isSome) = true := by rfl) (hl : keys.length = values.length := by rfl) (h0 : keys ≠ [] := by exact fun z => by cases z) (h15 : keys.length ≤ 15 := by decide) : SE X g γ (.Dict keys values pos) (eDisp d) := ⟨fun W tk => by
  obtain ⟨t, p, q⟩ := h.out W tk
  refine ⟨_, pe_disp p hall hl h0 h15, fun σ env A H mem Q hg he hr hp p' hn => ?_⟩
  obtain ⟨s0, r0, e0⟩ := hr.alloc (o := .dK []) (c := .dic []) hn fun s => ⟨[], upd_same, .nil⟩
  refine q σ env _ _ _ _ (hg.pre s0.pre) (he.stab s0) r0 (Post.bnd (hp.up s0) fun ps A2 H2 kvs m2 s2 r2 rl p => ?_)
  obtain ⟨ks, rfl, rk⟩ := rl
  split at p
  · rename_i hm
    split at p
    · rename_i h15
      have ea := pre_get s2.pre e0
      obtain ⟨ks0, e1, l0⟩ := r2.cell _ _ _ ea hm
      cases l0
      refine ⟨e1, ks, rfl, by rw [rk.length]; exact h15, ?_⟩
      obtain ⟨s3, r3⟩ := r2.write (o' := .dK (mergeK [] ks)) (c' := .dic (mergeD [] kvs)) hm ea rfl rfl fun s => ⟨_, upd_same, merge_rep (rk.stab s) .nil⟩
      exact p _ _ _ s3 r3 (.ref ea)
    · exact p.elim
  · exact p.elim⟩

/-! ### instances -/
def lookF (f : Str) : List (Str × D) → Option D
  | [] => none
  | (k, d) :: r => if f = k then some d else lookF f r
def putFD (f : Str) (v : D) : List (Str × D) → List (Str × D)
  | [] => [(f, v)]
  | (k, x) :: r => if k = f then (k, v) :: r else (k, x) :: putFD f v r
theorem RepP.look {A : List Addr} {H : Hp} {f : Str} {d : D} : ∀ {fv : List (Str × V)} {fs : List (Str × D)}, RepP X.K g A H fv fs → lookF f fs = some d → ∃ v, fv.lookup f = some v ∧ Rep X.K g A H v d
  | _, _, .nil, h => by cases h
  | _, _, .cons r l, h => by
    rename_i k v d' vs ds
    unfold lookF at h
    by_cases e : f = k
    · rw [if_pos e] at h; cases h
      subst e
      exact ⟨v, by simp [List.lookup], r⟩
    · rw [if_neg e] at h
      obtain ⟨w, h1, h2⟩ := RepP.look l h
      have eb : (f == k) = false := beq_eq_false_iff_ne.mpr e
      exact ⟨w, by simp only [List.lookup, eb]; exact h1, h2⟩
theorem RepP.putF {A : List Addr} {H : Hp} {f : Str} {v : V} {d : D} (rv : Rep X.K g A H v d) : ∀ {fv : List (Str × V)} {fs : List (Str × D)}, RepP X.K g A H fv fs → RepP X.K g A H (L2.putF f v fv) (putFD f d fs)
  | _, _, .nil => .cons rv .nil
  | _, _, .cons r l => by
    rename_i k w d' vs ds
    show RepP X.K g A H (if k = f then (k, v) :: vs else (k, w) :: L2.putF f v vs) (if k = f then (k, d) :: ds else (k, d') :: putFD f d ds)
    by_cases e : k = f
    · rw [if_pos e, if_pos e]; exact .cons rv l
    · rw [if_neg e, if_neg e]; exact .cons r (RepP.putF rv l)
def eFld (c f : Str) (a : AE) : AE := fun env m => (a env m).bind fun d m => match d with
  | .ref n => match m[n]? with
    | some (.ins c' fs) => if c' = c then match lookF f fs with
      | some d => .ok d m
      | none => .no
      else .no
    | _ => .no
  | _ => .no
theorem se_fld {cn : Str} (hC : Cls X.K (g.ca cn)) (hN : NoAttr X.K (g.ca cn) f) (he : SE X g γ e ia) (hb : attributeBase e f X.env (eval e X.env) = eval e X.env := by rfl) : SE X g γ (.Attribute e f pos) (eFld cn f ia) := ⟨fun W tk => by
  obtain ⟨t, p, q⟩ := he.out W tk
  refine ⟨_, pe_fld p hb, fun σ env A H mem Q hg he hr hp => ?_⟩
  refine q σ env A H mem _ hg he hr (Post.bnd hp fun v A1 H1 d m s1 r1 rv p1 => ?_)
  cases rv with
  | @ref n a ha =>
    dsimp only at p1
    split at p1
    · rename_i c' fs hm
      split at p1
      · rename_i ec
        subst ec
        split at p1
        · rename_i d hd
          obtain ⟨dx, fv, e1, l⟩ := r1.cell _ _ _ ha hm
          obtain ⟨w, h1, h2⟩ := l.look hd
          exact ⟨a, _, dx, fv, w, rfl, e1, hC, hN, h1, p1 _ A1 H1 .refl r1 h2⟩
        · exact p1.elim
      · exact p1.elim
    · exact p1.elim
  | _ => exact p1.elim⟩
def sFldS (c f : Str) (o v : AE) : AS := fun env m => (v env m).o env fun y m => (o env m).o env fun d m => match d with
  | .ref n => match m[n]? with
    | some (.ins c' fs) => if c' = c ∧ fs.length < 1000 then .nx env (m.set n (.ins c' (putFD f y fs))) else .no
    | _ => .no
  | _ => .no
theorem ss_fld {cn : Str} (hC : Cls X.K (g.ca cn)) (hN : NoAttr X.K (g.ca cn) f) (ho : SE X g γ o ia) (hv : SE X g γ value ib) (hs : swapsWith value (some (.Attribute o f tpos)) pos.line X.env = pure false := by rfl) : SS X g γ (.Assign [.Attribute o f tpos] value pos) (sFldS cn f ia ib) := ⟨fun W tk => by
  obtain ⟨t1, p1, q1⟩ := ho.out W tk
  obtain ⟨t2, p2, q2⟩ := hv.out W tk
  refine ⟨_, ps_fld p1 p2 hs, fun σ env A H mem E hg he hr hp => ?_⟩
  refine q2 σ env A H mem _ hg he hr (PostS.of (rl := Rep X.K g) he hp fun y A1 H1 dy m s1 r1 ry p => ?_)
  refine q1 σ env A1 H1 m _ (hg.pre s1.pre) (he.stab s1) r1 (PostS.of (rl := Rep X.K g) (he.stab s1) p fun v A2 H2 d m2 s2 r2 rv p3 => ?_)
  cases rv with
  | @ref n a ha =>
    dsimp only at p3
    split at p3
    · rename_i c' fs hm
      split at p3
      · rename_i ec
        obtain ⟨rfl, hl⟩ := ec
        obtain ⟨dx, fv, e1, l⟩ := r2.cell _ _ _ ha hm
        refine ⟨a, _, dx, fv, rfl, e1, hC, hN, by rw [l.length]; exact hl, ?_⟩
        obtain ⟨s3, r3⟩ := r2.write (o' := .ins (g.ca c') dx (putF f y fv)) (c' := .ins c' (putFD f dy fs)) hm ha rfl rfl fun s => ⟨dx, _, upd_same, (l.stab s).putF (ry.stab (s2.trans s))⟩
        exact p3 _ _ _ s3 r3 (he.stab (s1.trans (s2.trans s3)))
      · exact p3.elim
    · exact p3.elim
  | _ => exact p3.elim⟩
/-- C(e, ..) -/
structure MkA (P : Program) (w : World) (K : PySem.W.Frag) (mg : Str → Option Value) (base : Heap) (g : Glb) (k : Nat) (c : Str) (n : Nat) (af : AF) : Prop where
  ex : ∃ f fd ps, Mk K (g.ca c) f ∧ mg c = some (.ref (g.ca c)) ∧ Binds K fd ps [] ∧ FnOk P w K mg base (L2.CX P w) k f fd ps (spOf K g n af)
def eMk (c : Str) (F : AF) (a : AA) : AE := fun env m => (a env m).bind fun ds m => match F (.ref m.length :: ds) (m ++ [.ins c []]) with
  | .ok .non m2 => .ok (.ref m.length) m2
  | .er x m2 => .er x m2
  | _ => .no
theorem run_makeS {pins : List (Addr × Obj)} {σ : L2.St} {H : Hp} {s : Shared} {Q : VK} {us : List Value} {vs : List V} {CX : CXT} {k : Nat} {C f : Addr} {fd : FuncData} {ps : List Str} {sp : Sp} {E : XK} (M : Mk X.K C f) (F : FnOk X.prog X.w X.K X.mg X.base CX k f fd ps sp) (hr : Room (k + 1) X.A) (hb : Binds X.K fd ps [])
    (hx : PassesAt CX X σ E) (I : Inv X pins σ H s) (r : Vals vs us)
    (h : ∀ x dx, H x = none → H dx = none → dx ≠ x → sp (.ref x :: vs) (upd (upd H dx (.own x)) x (.ins C dx [])) (fun v H2 => v = .non ∧ Q (.ref x) H2) E)
    (hE : ∀ s1 e s', Inv X pins σ (upd (upd H s.heap.objs.size (.own (s.heap.objs.size + 1))) (s.heap.objs.size + 1) (.ins C s.heap.objs.size [])) s1 → CX X.stack (upd (upd H s.heap.objs.size (.own (s.heap.objs.size + 1))) (s.heap.objs.size + 1) (.ins C s.heap.objs.size [])) s1 E e s' → X.xe e s' := fun s1 e s' I1 c => hx pins _ s1 e s' I1 c) :
    wpAny (model X.prog X.w) X.A (call (.ref C) us) (EP X pins σ Q) X.xe s := by
  have hq := h (s.heap.objs.size + 1) s.heap.objs.size (I.hok.fresh (Nat.le_succ _)) (I.hok.fresh (Nat.le_refl _)) (Nat.ne_of_lt (Nat.lt_succ_self _))
  have I2 := Inv.made (C := C) I
  have r2 : Vals (V.ref (s.heap.objs.size + 1) :: vs) (Value.ref (s.heap.objs.size + 1) :: us) := .cons rfl r
  have hl : (Value.ref (s.heap.objs.size + 1) :: us ++ []).length = ps.length := by
    have e := r2.length
    rw [F.len _ _ _ _ hq] at e
    rw [List.append_nil]
    exact e.symm
  have hbd := hb _ (Value.ref (s.heap.objs.size + 1) :: us) I2.kIn hl
  rw [List.append_nil] at hbd
  refine wpAny_call (make_map (f := f) I.kIn M.makes M.init (beq_iff_eq.mp M.fn) (codeAny_mono (F.run _ X.stack _ _ ⟨Value.ref (s.heap.objs.size + 1) :: us, []⟩ (Value.ref (s.heap.objs.size + 1) :: us) _ _ E (hr.make C us []) (I2.env0.make C us []) hbd r2 hq) fun r s' hq' => ?_))
  cases r with
  | error e => exact hE _ e s' I2 hq'
  | ok fl =>
    cases fl with
    | ret u =>
      obtain ⟨v, H', I3, rv, ev, q3⟩ := I2.after hq'
      subst ev
      exact ⟨rv, ⟨V.ref (s.heap.objs.size + 1), H', I3, rfl, q3⟩⟩
    | next => exact False.elim hq'
    | brk => exact False.elim hq'
    | cont => exact False.elim hq'
theorem Rel.made {A : List Addr} {H : Hp} {m : Mem} {px dx : Addr} {c : Str} (R : Rel X.K g A H m) (h1 : H px = none) (h2 : H dx = none) (hne : dx ≠ px) :
    Stab X.K A H (A ++ [px]) (upd (upd H dx (.own px)) px (.ins (g.ca c) dx [])) ∧ Rel X.K g (A ++ [px]) (upd (upd H dx (.own px)) px (.ins (g.ca c) dx [])) (m ++ [.ins c []]) ∧ (A ++ [px])[m.length]? = some px := by
  obtain ⟨s1, r1⟩ := R.new (o := .own px) h2
  obtain ⟨s2, r2, e2⟩ := r1.alloc (p := px) (o := .ins (g.ca c) dx []) (c := .ins c []) (by rw [upd_ne (Ne.symm hne)]; exact h1) fun s => ⟨dx, [], upd_same, .nil⟩
  exact ⟨s1.trans s2, r2, e2⟩
theorem se_mk {k n : Nat} {cn : Str} {af : AF} (M : MkA X.prog X.w X.K X.mg X.base g k cn (n + 1) af) (hr : Room (k + 1) X.A) (ha : SA X g γ (e :: es) aa) (hla : aLen aa n) (hg : L2.Gl X cn := by rfl) (hdb : (cn == ("__debug__" : Str)) = false := by decide)
    (he : starEach (e :: es) X.env = (false, eval e X.env) :: starEach es X.env := by rfl) (hpl : (backTo pos (starEach es X.env)).any (·.1) = false := by rfl) : SE X g γ (.Call (.Name cn p) (e :: es) [] pos) (eMk cn af aa) := ⟨fun W tk => by
  obtain ⟨t, pa, q⟩ := ha.out W tk
  obtain ⟨f, fd, ps, M, hm, hb, F⟩ := M.ex
  refine ⟨fun σ H Q => t σ H fun vs H1 => ∀ x dx, H1 x = none → H1 dx = none → dx ≠ x → spOf X.K g (n + 1) af (.ref x :: vs) (upd (upd H1 dx (.own x)) x (.ins (g.ca cn) dx [])) (fun v H2 => v = .non ∧ Q (.ref x) H2) (WE W σ), ⟨fun pins s σ H Q I h => ?_⟩, fun σ env A H mem Q hg he hr hp => ?_⟩
  · refine wpAny_Call_Name_kw (ld_glob I hg hm ?_ hdb)
    refine PySem.W.callWith_K (h₀ := X.base) I.ok.mod.kin M.kp (thn (pa.run pos pins s σ H _ I h) fun us s1 ⟨vs, H1, I1, r, q⟩ => ⟨I1.kIn, ?_⟩) he hpl
    exact run_makeS M F hr hb (passAt tk σ) I1 r q
  · have key : ∀ ds m, aa env mem = .ok ds m → ds.length = n := fun ds m z => hla env mem ds m z
    unfold eMk at hp
    cases e1 : aa env mem with
    | ok ds m =>
      refine q σ env A H mem _ hg he hr ?_
      rw [e1] at hp ⊢
      intro vs A1 H1 s1 r1 rv px dx h1 h2 hne
      obtain ⟨s2, r2, e2⟩ := r1.made (c := cn) h1 h2 hne
      refine ⟨by simp [rv.length, key ds m e1], _, _, .ref m.length :: ds, r2, .cons (.ref e2) (rv.stab s2), ?_⟩
      have hp2 := Post.up (s1.trans s2) hp
      dsimp only [R.bind] at hp2
      cases e3 : af (.ref m.length :: ds) (m ++ [.ins cn []]) with
      | ok d m3 =>
        rw [e3] at hp2
        intro v A3 H3 s3 r3 rv3
        cases rv3 with
        | non => exact ⟨rfl, hp2 _ A3 H3 s3 r3 (.ref (pre_get s3.pre e2))⟩
        | _ => exact hp2.elim
      | er y m3 => rw [e3] at hp2; exact hp2
      | no => rw [e3] at hp2; exact hp2.elim
    | er y m =>
      refine q σ env A H mem _ hg he hr ?_
      rw [e1] at hp ⊢
      exact hp
    | no => rw [e1] at hp; exact hp.elim⟩

/-! ### a def that a value holds -/
def eCallV (disp : Str → Option (Nat × AF)) (f : AE) (aa : AA) : AE := fun env m => (f env m).bind fun d m => match d with
  | .fn x => match disp x with
    | some (n, af) => (aa env m).bind fun ds m => if ds.length = n then af ds m else .no
    | none => .no
  | _ => .no
theorem se_callV {k : Nat} {disp : Str → Option (Nat × AF)} (hD : ∀ x n af, disp x = some (n, af) → FnA X.prog X.w X.K X.mg X.base g k x n af) (hr : Room k X.A) (hf : SE X g γ o ia) (ha : SA X g γ (e :: es) aa)
    (hcv : eval (.Call o (e :: es) [] pos) X.env = (do callWith pos (← eval o X.env) [] (backTo pos (starEach (e :: es) X.env)) (backToKw pos (keywordEach [] X.env))) := by rfl)
    (he : starEach (e :: es) X.env = (false, eval e X.env) :: starEach es X.env := by rfl) (hpl : (backTo pos (starEach es X.env)).any (·.1) = false := by rfl) : SE X g γ (.Call o (e :: es) [] pos) (eCallV disp ia aa) := ⟨fun W tk => by
  obtain ⟨to, po, qo⟩ := hf.out W tk
  obtain ⟨t, pa, q⟩ := ha.out W tk
  refine ⟨fun σ H Q => to σ H fun v H1 => ∃ x n af, v = .ref (g.fa x) ∧ disp x = some (n, af) ∧ t σ H1 fun vs H2 => spOf X.K g n af vs H2 Q (WE W σ), ⟨fun pins s σ H Q I h => ?_⟩, fun σ env A H mem Q hg he hr hp => ?_⟩
  · refine PyProof.Rows.Call_ (thn (po.run pins s σ H _ I h) fun u s1 ⟨v, H1, I1, r1, x, n, af, ev, hd, ht⟩ => ?_) hcv
    subst ev
    obtain rfl : u = Value.ref (g.fa x) := r1
    obtain ⟨f, fd, ps, hm, hf, hk, hb, F⟩ := (hD x n af hd).ex
    rw [hf]
    refine PySem.W.callWith_K (h₀ := X.base) I.ok.mod.kin hk (thn (pa.run pos pins s1 σ H1 _ I1 ht) fun us s2 ⟨vs, H2, I2, r2, q2⟩ => ⟨I2.kIn, ?_⟩) he hpl
    exact run_fnS F hr hb (passAt tk σ) I2 r2 q2
  · refine qo σ env A H mem _ hg he hr (Post.bnd hp fun v A1 H1 d m s1 r1 rv p1 => ?_)
    cases rv with
    | fn x =>
      dsimp only at p1
      split at p1
      · rename_i n af e1
        refine ⟨x, n, af, rfl, e1, q σ env A1 H1 m _ (hg.pre s1.pre) (he.stab s1) r1 (Post.bnd p1 fun vs A2 H2 ds m2 s2 r2 rvs p2 => ?_)⟩
        split at p2
        · rename_i hl
          exact ⟨by rw [rvs.length]; exact hl, A2, m2, ds, r2, rvs, p2⟩
        · exact p2.elim
      · exact p1.elim
    | _ => exact p1.elim⟩
end
theorem hu65_of {A : Around} {k : Nat} (hr : Room k A) : A.units + 65 < cLine := by have := hr.un; omega
theorem bb_len : bootBuiltins "len" = some (.builtin "len") := by decide +kernel
theorem bb_abs : bootBuiltins "abs" = some (.builtin "abs") := by decide +kernel
theorem bb_sum : bootBuiltins "sum" = some (.builtin "sum") := by decide +kernel
theorem bb_min : bootBuiltins "min" = some (.builtin "min") := by decide +kernel
theorem bb_max : bootBuiltins "max" = some (.builtin "max") := by decide +kernel
theorem bb_sorted : bootBuiltins "sorted" = some (.builtin "sorted") := by decide +kernel
theorem bb_all : bootBuiltins "all" = some (.builtin "all") := by decide +kernel
theorem bb_any : bootBuiltins "any" = some (.builtin "any") := by decide +kernel
theorem bb_repr : bootBuiltins "repr" = some (.builtin "repr") := by decide +kernel
theorem bb_int : bootBuiltins "int" = some (.type "int") := by decide +kernel
theorem bb_bool : bootBuiltins "bool" = some (.type "bool") := by decide +kernel
theorem bb_str : bootBuiltins "str" = some (.type "str") := by decide +kernel
theorem bb_list : bootBuiltins "list" = some (.type "list") := by decide +kernel
theorem bb_tuple : bootBuiltins "tuple" = some (.type "tuple") := by decide +kernel
theorem bb_dict : bootBuiltins "dict" = some (.type "dict") := by decide +kernel
theorem bb_set : bootBuiltins "set" = some (.type "set") := by decide +kernel
end Ab
set_option Elab.async false
set_option linter.all false
set_option maxRecDepth 100000
set_option maxHeartbeats 2000000
namespace L2
open PySem PySem.Spec PyProof.Rows
section
variable {X : Cx}
/-- an exception without fields is let go -/
theorem mk_endN {pins : List (Addr × Obj)} {σ : St} {H1 H2 : Hp} {Q : XK} {hp hp2 h2 : Heap} {g1 g2 : Array GenState} {d1 d2 : Drawn} {t1 t2 : Nat} {os1 os2 : OsState} {a C : Addr} (T : Raises X (.ref C)) (I1 : Inv X pins σ H1 ⟨hp, g1, d1, t1, os1⟩)
    (ha : hp.objs.size ≤ a) (k : ∀ b o, hp.get? b = some o → hp2.get? b = some o) (un : Un (frs X.stack) [] (upd H1 a (exo a C none)) H2 hp2 h2) (hok : HOk X.prog X.w H2 h2) (ho : os2 = os1) (hb : AllBare g2)
    (ea : H2 a = some (exo a C none)) (q : Q (.ref C) none (del H2 a)) : MkP X pins σ Q (.ref a) ⟨h2, g2, d2, t2, os2⟩ := by
  obtain ⟨t0, hoe⟩ := exo_at hok ea
  have hn : H1 a = none := I1.hok.fresh ha
  obtain ⟨G, g1', g2'⟩ := restrict h2 fun b => decide (b ≠ a)
  have gk : ∀ b, b ≠ a → G.get? b = h2.get? b := fun b hb => g1' b (decide_eq_true hb)
  have ge : G.get? a = none := g2' a (by simp)
  have nha : ∀ {b : Addr} {o : Obj}, hp.get? b = some o → b ≠ a := fun {b o} z => Nat.ne_of_lt (Nat.lt_of_lt_of_le (Heap.lt_size z) ha)
  have up : ∀ {b : Addr}, b ≠ a → H1 b = none → upd H1 a (exo a C none) b = none := fun {b} hb n => by rw [upd_ne hb]; exact n
  have U : Un (frs X.stack) [] H1 (del H2 a) hp G := {
    keep := fun b o z n hf hx => by
      rw [gk b (nha z)]; exact un.keep b o (k b o z) (up (nha z) n) hf hx
    slot := fun b o z n hf hx => by
      rw [gk b (nha z)]; exact un.slot b o (k b o z) (up (nha z) n) hf hx
    free := fun b o z n hx => by
      rw [del_ne (nha z)]; exact un.free b o (k b o z) (up (nha z) n) hx
    there := fun b o z hx => by
      rw [gk b (nha z)]; exact un.there b o (k b o z) hx
    tups := fun b xs z => by
      rw [del_ne (ne_of_none z hn)]; exact un.tups b xs (by rw [upd_ne (ne_of_none z hn)]; exact z)
    frzs := fun b o v z => by
      rw [del_ne (ne_of_none z hn)]; exact un.frzs b o v (by rw [upd_ne (ne_of_none z hn)]; exact z)
    tbls := fun b ps z => by
      rw [del_ne (ne_of_none z hn)]; exact un.tbls b ps (by rw [upd_ne (ne_of_none z hn)]; exact z) }
  have hok3 : HOk X.prog X.w (del H2 a) G := fun b o z => by
    have hba : b ≠ a := fun e => by rw [e, del_same] at z; cases z
    rw [del_ne hba] at z
    have noa : ∀ {c : Addr}, H2 c = some (.own b) → c ≠ a := fun {c} hc => at_ne ea hc exo_own
    exact (hok b o z).stay (fun c v hc y => by
        have hca : c ≠ a := by
          rcases hc with hc | hc
          · rw [hc]; exact hba
          · exact noa hc
        rw [gk c hca]; exact y) (fun c hc => by rw [del_ne (noa hc)]; exact hc) (fun c xs hc => by rw [del_ne (at_ne ea hc exo_tup)]; exact hc)
  have J : Inv X pins σ (del H2 a) ⟨G, g2, d2, t2, os2⟩ := I1.call' (ch := []) ho U hok3 hb (fun b z => absurd z (by simp))
  exact ⟨a, _, _, ⟨G, g2, d2, t2, os2⟩, _, .ref C, none, rfl, J, fun b o q => by
    by_cases hba : b = a
    · rw [hba, ge] at q; cases q
    · exact (gk b hba).symm.trans q, ge, hoe, ⟨rfl, rfl⟩, rfl, rfl, del_same, rfl, hb, T, q⟩
/-- C(), C's own __init__ storing nothing -/
def tMkN (C : Addr) (sp : Sp) : St → Hp → XK → Prop := fun σ H Q => ∀ a, H a = none → sp [.ref a] (upd H a (exo a C none)) (fun v H2 => v = .non ∧ H2 a = some (exo a C none) ∧ Q (.ref C) none (del H2 a)) (fun _ _ _ => False)
theorem pmk_oexN {CX : CXT} {x : Str} {C fI : Addr} {k : Nat} {fd : FuncData} {ps : List Str} {sp : Sp} {p pos : Pos} (T : OexC X.K C) (iC : PySem.W.findIn X.K (.ref C) "__init__" = some (some (.ref fI))) (tI : PySem.W.typeIn X.K (.ref fI) = some (.type "function"))
    (F1 : FnOk X.prog X.w X.K X.mg X.base CX k fI fd ps sp) (hr : Room (k + 1) X.A) (hb : Binds X.K fd ps []) (hx : Passes CX X (fun _ _ _ => False)) (hg : Gl X x) (hm : X.mg x = some (.ref C)) (hdb : (x == ("__debug__" : Str)) = false := by decide) :
    PMk X (.Call (.Name x p) [] [] pos) (tMkN C sp) := by
  intro pins s σ H Q I h
  obtain ⟨nm, q, N, bs, bm, sn, sub, ab, col, dd, k0, k1, k2, k3, k5, hC, hbm⟩ := T.cls
  refine wpAny_Call_Name_kw (ld_glob I hg hm ?_ hdb)
  refine PySem.W.callWith_K0 I.kIn T.kC ?_
  show wpAny _ _ (call (.ref C) []) _ _ _
  obtain ⟨hp, g, dr, tk, os⟩ := s
  have hsz : hp.objs.size ≤ hp.objs.size + 1 := Nat.le_succ _
  have hn : H (hp.objs.size + 1) = none := I.hok.fresh hsz
  have hq := h (hp.objs.size + 1) hn
  have kk : ∀ b o, hp.get? b = some o → ((hp.push (PySem.W.kdv_tup [])).push (PySem.HandSPX.excO C hp.objs.size)).get? b = some o := fun b o e => Heap.get?_push_of_some _ (Heap.get?_push_of_some _ e)
  have hget : ((hp.push (PySem.W.kdv_tup [])).push (PySem.HandSPX.excO C hp.objs.size)).get? (hp.objs.size + 1) = some (PySem.HandSPX.excO C hp.objs.size) := by heap_get
  have I2 : Inv X pins σ (upd H (hp.objs.size + 1) (exo (hp.objs.size + 1) C none)) ⟨(hp.push (PySem.W.kdv_tup [])).push (PySem.HandSPX.excO C hp.objs.size), g, dr, tk, os⟩ :=
    I.laid (t' := tk) (a := hp.objs.size + 1) (o := exo (hp.objs.size + 1) C none) (h' := (hp.push (PySem.W.kdv_tup [])).push (PySem.HandSPX.excO C hp.objs.size)) kk hsz (exo_ok hget)
  have r2 : Vals [V.ref (hp.objs.size + 1)] [Value.ref (hp.objs.size + 1)] := .cons rfl .nil
  have hl : ([Value.ref (hp.objs.size + 1)] ++ []).length = ps.length := by
    have e := r2.length
    rw [F1.len _ _ _ _ hq] at e
    rw [List.append_nil]
    exact e.symm
  have hbd := hb _ [Value.ref (hp.objs.size + 1)] I2.kIn hl
  rw [List.append_nil] at hbd
  refine wpAny_call (PySem.HandSPX.call_own F.excBase_ValueError (fun Y => PySem.HandSPX.refsVE_contains Y bm hbm) (I.kIn _ _ hC) (PySem.W.looks_findIn I.kIn iC) (fun self => PySem.W.bind_fn I.kIn self tI) (Nat.zero_le _)
    (codeAny_mono (F1.run _ X.stack _ _ ⟨[Value.ref (hp.objs.size + 1)], []⟩ [Value.ref (hp.objs.size + 1)] _ _ (fun _ _ _ => False) (hr.make C [] []) (I2.env0.make C [] []) hbd r2 hq) fun r s' hq' => ?_))
  cases r with
  | error er => exact hx pins σ _ _ er s' I2 hq'
  | ok fl =>
    cases fl with
    | ret u =>
      obtain ⟨v, H2, os2, bare2, un2, hok2, rv, ev, ea, q2⟩ := hq'
      subst ev
      obtain ⟨h2, g2, d2, t2, os'⟩ := s'
      exact ⟨rv, mk_endN (raises_own T.exC T.tyC) I hsz kk un2 hok2 os2 bare2 ea q2⟩
    | next => exact False.elim hq'
    | brk => exact False.elim hq'
    | cont => exact False.elim hq'
end
/-- __init__ of an error: it stores nothing | one field -/
def spI0 : Sp := fun vs H Q _ => ∃ a, vs = [.ref a] ∧ Q .non H
def spI1 (K : PySem.W.Frag) (f : Str) : Sp := fun vs H Q _ => ∃ (a C : Addr) (y : V), vs = [.ref a, y] ∧ OexC K C ∧ PySem.W.findIn K (.ref C) f = some none ∧ H a = some (exo a C none) ∧ ∀ dx, H dx = none → dx ≠ a → Q .non (upd (upd H dx (exd dx [(f, y)])) a (exo a C (some dx)))
section
variable {P : Program} {w : World} {K : PySem.W.Frag} {mg : Str → Option Value} {base : Heap}
theorem init0 {qual : Str} {st : Stmt} {f : Addr} {fd : FuncData} (F : Fun K "__init__" qual st f fd) (S : FnScope ["self"] ["self"] (defScope st)) (hb : ∃ p, defBody st = [.Pass p]) : FnOk P w K mg base CX0 1 f fd ["self"] spI0 :=
  F.ok S (fun vs H Q E h => by obtain ⟨a, rfl, _⟩ := h; rfl) fun cdv A outer s H vs Q E hr h => by
    obtain ⟨p, e⟩ := hb
    rw [e]
    obtain ⟨a, rfl, q⟩ := h
    exact ⟨_, pss_one ps_pass, q⟩
theorem init1 {qual : Str} {st : Stmt} {f : Addr} {fd : FuncData} {x : Str} (F : Fun K "__init__" qual st f fd) (S : FnScope ["self", x] ["self", x] (defScope st))
    (hb : ∀ cdv A outer s H E, PSs (cxOf CX0 P w K mg base ["self", x] qual (defScope st) f cdv A outer s H E).nox (defBody st) (tOst K x (tVar 0) (tVar 1))) : FnOk P w K mg base CX0 1 f fd ["self", x] (spI1 K x) :=
  F.ok S (fun vs H Q E h => by obtain ⟨a, C, y, rfl, _⟩ := h; rfl) fun cdv A outer s H vs Q E hr h => by
    obtain ⟨a, C, y, rfl, T, hno, ha, q⟩ := h
    exact ⟨_, hb cdv A outer s H E, _, rfl, _, rfl, a, C, rfl, T, hno, .inl ⟨ha, fun dx n ne => q dx n ne⟩⟩
end
end L2
namespace Ab
open PySem PySem.Spec PyProof.Rows L2
/-! ### errors of the text -/
structure Er0 (P : Program) (w : World) (K : PySem.W.Frag) (mg : Str → Option Value) (base : Heap) (g : Glb) (c : Str) : Prop where
  ex : ∃ fI fd, OexC K (g.ca c) ∧ mg c = some (.ref (g.ca c)) ∧ PySem.W.findIn K (.ref (g.ca c)) "__init__" = some (some (.ref fI)) ∧ PySem.W.typeIn K (.ref fI) = some (.type "function") ∧ Binds K fd ["self"] [] ∧ FnOk P w K mg base CX0 1 fI fd ["self"] spI0
structure Er1 (P : Program) (w : World) (K : PySem.W.Frag) (mg : Str → Option Value) (base : Heap) (g : Glb) (c x : Str) : Prop where
  ex : ∃ fI fd, OexC K (g.ca c) ∧ mg c = some (.ref (g.ca c)) ∧ PySem.W.findIn K (.ref (g.ca c)) "__init__" = some (some (.ref fI)) ∧ PySem.W.typeIn K (.ref fI) = some (.type "function") ∧ PySem.W.findIn K (.ref (g.ca c)) x = some none ∧ Binds K fd ["self", x] [] ∧ FnOk P w K mg base CX0 1 fI fd ["self", x] (spI1 K x)
def sRaise0 (c : Str) : AS := fun e m => .er ⟨c, none⟩ e m
def sRaise1 (c x : Str) (a : AE) : AS := fun e m => (a e m).o e fun d m => .er ⟨c, some m.length⟩ e (m ++ [.xd [(x, d)]])
section
variable {X : Cx} {g : Glb} {γ : Gam} {e : Expr} {ia : AE} {p pos pos2 : Pos} {c x : Str}
theorem ss_raise0 (T : Er0 X.prog X.w X.K X.mg X.base g c) (hc : X.calm = true) (hr : Room 2 X.A) (hg : L2.Gl X c := by rfl) (hdb : (c == ("__debug__" : Str)) = false := by decide) : SS X g γ (.Raise (some (.Call (.Name c p) [] [] pos)) none pos2) (sRaise0 c) := ⟨fun W tk => by
  obtain ⟨fI, fd, T, hm, iC, tI, hb, F⟩ := T.ex
  refine ⟨_, ps_raise hc tk (pmk_oexN T iC tI F hr hb pass0 hg hm hdb), fun σ env A H mem E hgm he hr hp => ?_⟩
  intro a hn
  refine ⟨a, rfl, rfl, upd_same, ?_⟩
  have e1 : L2.del (upd H a (exo a (g.ca c) none)) a = H := by
    funext b
    by_cases z : b = a
    · rw [z, del_same, hn]
    · rw [del_ne z, upd_ne z]
  rw [e1]
  exact hp _ none σ A H .refl hr he ⟨rfl, rfl⟩⟩
theorem ss_raise1 (T : Er1 X.prog X.w X.K X.mg X.base g c x) (hc : X.calm = true) (hr : Room 2 X.A) (ha : SE X g γ e ia) (hg : L2.Gl X c := by rfl) (hdb : (c == ("__debug__" : Str)) = false := by decide)
    (hs : starEach (e :: []) X.env = (false, eval e X.env) :: starEach [] X.env := by rfl) (hpl : (backTo pos (starEach [] X.env)).any (·.1) = false := by rfl) : SS X g γ (.Raise (some (.Call (.Name c p) [e] [] pos)) none pos2) (sRaise1 c x ia) := ⟨fun W tk => by
  obtain ⟨fI, fd, T, hm, iC, tI, hno, hb, F⟩ := T.ex
  obtain ⟨t, pe, q⟩ := ha.out W tk
  refine ⟨_, ps_raise hc tk (pmk_oex T iC tI F hr hb .nil pass0 hg hm (pa_cons pe pa_nil hs) hdb hs hpl), fun σ env A H mem E hgm he hr hp => ?_⟩
  refine q σ env A H mem _ hgm he hr (PostS.of (rl := Rep X.K g) he hp fun v A1 H1 d m s1 r1 rv p1 => ?_)
  refine ⟨by show 1 ≤ 1000; decide, fun a hn => ?_⟩
  refine ⟨a, g.ca c, v, rfl, T, hno, upd_same, fun dx hdx hne => ?_⟩
  have hd1 : H1 dx = none := by rw [upd_ne hne] at hdx; exact hdx
  refine ⟨rfl, dx, [(x, v)], upd_same, by rw [upd_ne hne]; exact upd_same, hd1, ?_⟩
  have e1 : upd (L2.del (upd (upd (upd H1 a (exo a (g.ca c) none)) dx (exd dx [(x, v)])) a (exo a (g.ca c) (some dx))) a) dx (.xd [(x, v)]) = upd H1 dx (.xd [(x, v)]) := by
    funext b
    by_cases z : b = dx
    · rw [z, upd_same, upd_same]
    · rw [upd_ne z, upd_ne z]
      by_cases y : b = a
      · rw [y, del_same, hn]
      · rw [del_ne y, upd_ne y, upd_ne z, upd_ne y]
  rw [e1]
  obtain ⟨s2, r2, e2⟩ := r1.alloc (o := .xd [(x, v)]) (c := .xd [(x, d)]) hd1 fun s => ⟨_, upd_same, .cons (rv.stab s) .nil⟩
  exact p1 _ (some dx) σ _ _ s2 r2 (he.stab (s1.trans s2)) ⟨rfl, dx, rfl, e2⟩⟩

/-! ### try -/
def sTry (xs : Str → Str → Option Bool) (h : Str) (i : Nat) (body : AS) (suite : Nat → Ex → AS) : AS := fun env m => match body env m with
  | .er x e m => match xs x.c h with
    | some true => match suite m.length x (e.set i (some (.ref m.length))) (m ++ [.exc]) with
      | .nx e m => .nx (e.set i none) m
      | .bk e m => .bk (e.set i none) m
      | .ct e m => .ct (e.set i none) m
      | .rt d m => .rt d m
      | _ => .no
    | some false => .er x e m
    | none => .no
  | o => o
theorem Rel.exc {A : List Addr} {H : Hp} {m : Mem} {a : Addr} (R : Rel X.K g A H m) : Stab X.K A H (A ++ [a]) H ∧ Rel X.K g (A ++ [a]) H (m ++ [.exc]) ∧ (A ++ [a])[m.length]? = some a := by
  have s : Stab X.K A H (A ++ [a]) H := ⟨⟨[a], rfl⟩, fun _ _ h => h⟩
  refine ⟨s, ⟨by simp [R.len], fun i j b y z h1 h2 h3 h4 t1 t2 => ?_, fun i b y h1 h2 => ?_⟩, by rw [← R.len]; simp⟩
  · rcases snoc_get h3 with ⟨l3, h3⟩ | ⟨l3, rfl⟩
    · rcases snoc_get h4 with ⟨l4, h4⟩ | ⟨l4, rfl⟩
      · rcases snoc_get h1 with ⟨_, h1⟩ | ⟨l1, _⟩
        · rcases snoc_get h2 with ⟨_, h2⟩ | ⟨l2, _⟩
          · exact R.inj i j b y z h1 h2 h3 h4 t1 t2
          · exfalso; have := R.len; omega
        · exfalso; have := R.len; omega
      · cases t2
    · cases t1
  · rcases snoc_get h2 with ⟨l2, h2⟩ | ⟨l2, rfl⟩
    · rcases snoc_get h1 with ⟨_, h1⟩ | ⟨l1, _⟩
      · have hr := R.cell _ _ _ h1 h2
        exact hr.stab s (fun _ e => e) (fun _ e => e) (fun _ e => e) (fun _ _ _ e => e) (fun _ e => e)
      · exfalso; have := R.len; omega
    · trivial
/-- what the suite knows of the error: x, at place n -/
structure Caught (g : Glb) (x : Ex) (cls : Value) (d : Option Addr) : Prop where
  cls : cls = .ref (g.ca x.c)
  non : x.d = none → d = none
theorem ss_try {xs : Str → Str → Option Bool} {h n : Str} {i : Nat} {body suite : List Stmt} {b₀ : Stmt} {np pos' : Pos} {ib : AS} {is : Nat → Ex → AS} {cv : Value} (hX : ∀ c b, xs c h = some b → PySem.W.exmOne X.K (.ref (g.ca c)) cv = some b)
    (hs : X.stack = X.env :: X.outer) (hf : X.env.frame = some X.env.locals) (hN : X.N.Nodup) (hc : Names X h cv)
    (hb : ∀ (pn : List (Addr × Obj)) (xe : Value → Shared → Prop), PassesOwn (model X.prog X.w) X.A X.env xe → SSs (X.tr pn xe) g [] body ib)
    (hsu : ∀ (k : Nat) (x : Ex) (a : Addr) (oe : Obj) (cls : Value) (d : Option Addr) (pn : List (Addr × Obj)), Zc cls d oe → (∃ vs, oe.data = .fields vs) → Caught g x cls d → SSs (X.suite a ((a, oe) :: pn)) g [(k, a)] (b₀ :: suite) (is k x))
    (hi : X.N[i]? = some n := by rfl) (hln : X.env.kindOf n = some .local := by rfl) :
    SS X g [] (.Try body [.ExceptHandler (some (.Name h np)) (some n) (b₀ :: suite) pos'] [] [] pos) (sTry xs h i ib is) := ⟨fun W tk => by
  refine ⟨_, ps_try_as (tb := fun W => rdS X.K g [] ib W) (ts := fun a cls d E σ H => ∃ (k : Nat) (x : Ex), Caught g x cls d ∧ rdS X.K g [(k, a)] (is k x) (fun _ _ _ _ => False) E σ H) hs hf hN hi hln hc tk (fun W pn xe tk2 ho => (hb pn xe ho).uni tk2) (fun a oe cls d pn hz hfl => ⟨fun pins s σ H E I hq => ?_⟩), fun σ env A H mem E hg he hr hp => ?_⟩
  · obtain ⟨k, x, hca, rd⟩ := hq
    exact ((hsu k x a oe cls d pn hz hfl hca).uni (W := fun _ _ _ _ => False) takes0).run pins s σ H E I rd
  · refine ⟨env, A, mem, hg, he, hr, ?_⟩
    unfold sTry at hp
    cases e1 : ib env mem with
    | nx e2 m2 => rw [e1] at hp; exact hp
    | rt e2 m2 => rw [e1] at hp; exact hp
    | bk e2 m2 => rw [e1] at hp; exact hp
    | ct e2 m2 => rw [e1] at hp; exact hp
    | no => rw [e1] at hp; exact hp
    | er x e2 m2 =>
      rw [e1] at hp
      dsimp only at hp
      intro c dd σ2 A2 H2 s2 r2 er2 ex
      obtain ⟨rfl, exd⟩ := ex
      cases e3 : xs x.c h with
      | none => rw [e3] at hp; exact hp.elim
      | some b =>
        rw [e3] at hp
        refine ⟨b, hX _ _ e3, fun hbt a hna => ?_, fun hbf => ?_⟩
        · subst hbt
          dsimp only at hp
          have hca : Caught g x (.ref (g.ca x.c)) dd := ⟨rfl, fun z => by rw [z] at exd; exact exd⟩
          obtain ⟨s3, r3, e4⟩ := r2.exc (a := a)
          refine ⟨m2.length, x, hca, _, _, _, fun q hq => ?_, (er2.stab s3).set i (.ref e4), r3, ?_⟩
          · rw [List.mem_singleton.mp hq]; exact e4
          · cases e5 : is m2.length x (e2.set i (some (.ref m2.length))) (m2 ++ [.exc]) with
            | nx e6 m6 => rw [e5] at hp; exact fun σ7 A7 H7 s7 r7 er7 => hp _ A7 H7 (s2.trans (s3.trans s7)) r7 (er7.drop i none)
            | bk e6 m6 => rw [e5] at hp; exact fun σ7 A7 H7 s7 r7 er7 => hp _ A7 H7 (s2.trans (s3.trans s7)) r7 (er7.drop i none)
            | ct e6 m6 => rw [e5] at hp; exact fun σ7 A7 H7 s7 r7 er7 => hp _ A7 H7 (s2.trans (s3.trans s7)) r7 (er7.drop i none)
            | rt e6 m6 => rw [e5] at hp; exact fun σ7 A7 H7 s7 r7 er7 => hp _ A7 H7 (s2.trans (s3.trans s7)) r7 er7
            | er y e6 m6 => rw [e5] at hp; exact hp.elim
            | no => rw [e5] at hp; exact hp.elim
        · subst hbf
          dsimp only at hp
          exact hp _ dd σ2 A2 H2 s2 r2 er2 ⟨rfl, exd⟩⟩
/-- isinstance(e, C), e the caught error, that has no fields -/
def eIsX (i k : Nat) (b : Option Bool) : AE := fun env m => match env[i]? with
  | some (some (.ref n)) => if n = k then match b with
    | some b => .ok (.bl b) m
    | none => .no
    else .no
  | _ => .no
theorem se_isX {a : Addr} {oe : Obj} {cls : Value} {d : Option Addr} {pn : List (Addr × Obj)} {x : Ex} {k i : Nat} {n : Str} {cE : Expr} {cv : V} {cu : Value} {ob : Option Bool} (hz : Zc cls d oe) (hf : ∃ vs, oe.data = .fields vs) (hca : Caught g x cls d) (hm : X.mg "isinstance" = none)
    (hxd : ∀ b, ob = some b → x.d = none ∧ ExcC X.K (g.ca x.c) ∧ PySem.W.kitOne X.K (.ref (g.ca x.c)) cu = some b) (hcE : PE (X.suite a ((a, oe) :: pn)) cE (tC cv)) (hcu : ∀ u, RelV cv u → u = cu) (he : SE (X.suite a ((a, oe) :: pn)) g [(k, a)] e (eVar i)) (hpe : PE (X.suite a ((a, oe) :: pn)) e (tVar i))
    (hg : L2.Gl X "isinstance" := by rfl) (hvi : bootBuiltins "isinstance" = some (.builtin "isinstance") := by decide +kernel)
    (hs : starEach [e, cE] X.env = (false, eval e X.env) :: starEach [cE] X.env := by rfl) (hpl : (backTo pos (starEach [cE] X.env)).any (·.1) = false := by rfl) (hs2 : starEach [cE] X.env = (false, eval cE X.env) :: starEach [] X.env := by rfl) :
    SE (X.suite a ((a, oe) :: pn)) g [(k, a)] (.Call (.Name "isinstance" p) [e, cE] [] pos) (eIsX i k ob) := ⟨fun W tk => by
  cases ob with
  | none => exact ⟨_, (⟨fun pins s σ H Q I h => False.elim h⟩ : PE _ _ (fun _ _ _ => False)), fun σ env A H mem Q hgm her hr hp => by
      unfold eIsX at hp
      split at hp
      · split at hp
        · exact hp
        · exact hp
      · exact hp⟩
  | some b =>
    obtain ⟨hd, hE, hk⟩ := hxd b rfl
    obtain ⟨rfl, hdd⟩ := hca
    have := hdd hd
    subst this
    refine ⟨_, pe_callB (X := X.suite a ((a, oe) :: pn)) (call_isE hE hz hf) hg hm hvi (pa_cons hpe (pa_cons hcE pa_nil hs2) hs) (by decide) (by decide) hs hpl, fun σ env A H mem Q hgm her hr hp => ?_⟩
    unfold eIsX at hp
    split at hp
    · rename_i n hn
      split at hp
      · rename_i ek
        subst ek
        obtain ⟨v, h1, h2⟩ := her.2 i _ hn
        cases h2 with
        | @ref _ a' ha' =>
          have ea : A[n]? = some a := hgm (n, a) (List.mem_singleton.mpr rfl)
          rw [ea] at ha'
          cases ha'
          exact ⟨_, h1, cv, cu, b, rfl, hcu, hk, hp _ A H .refl hr (.bl b)⟩
      · exact hp.elim
    · exact hp.elim⟩
end
end Ab
set_option Elab.async false
set_option linter.all false
set_option maxRecDepth 100000
namespace Ab
open PySem PySem.Spec PyProof.Rows L2
/-! ### a, b = x, y -/
def sPar2 (i j : Nat) (aa : AA) : AS := fun e m => (aa e m).o e fun ds m => match ds with
  | [x, y] => .nx ((e.set i (some x)).set j (some y)) m
  | _ => .no
def sPar3 (i j l : Nat) (aa : AA) : AS := fun e m => (aa e m).o e fun ds m => match ds with
  | [x, y, z] => .nx (((e.set i (some x)).set j (some y)).set l (some z)) m
  | _ => .no
section
variable {X : Cx} {g : Glb} {γ : Gam} {a b c : Expr} {aa : AA} {pos px py pz pt : Pos} {x y z : Str} {i j l : Nat} {kt k2 pt2}
theorem ss_par2 (hc : X.calm = true) (hN : X.N.Nodup) (hi : X.N[i]? = some x) (hj : X.N[j]? = some y) (ha : SA X g γ [a, b] aa) (hij : i ≠ j)
    (hx : X.env.scope.names.lookup x = some .local) (hy : X.env.scope.names.lookup y = some .local)
    (hw : swappedStores [.Tuple [.Name x px, .Name y py] kt pt] (.Tuple [a, b] k2 pt2) X.env = pure (some [x, y]))
    (hs : swapsWithSole [.Tuple [.Name x px, .Name y py] kt pt] (.Tuple [a, b] k2 pt2) pos.line X.env = pure false := by rfl) :
    SS X g γ (.Assign [.Tuple [.Name x px, .Name y py] kt pt] (.Tuple [a, b] k2 pt2) pos) (sPar2 i j aa) := ⟨fun W tk => by
  obtain ⟨t, pa, q⟩ := ha.out W tk
  refine ⟨_, ps_par hc hN hi hj hij hx hy pa hw hs, fun σ env A H mem E hg he hr hp => ?_⟩
  refine q σ env A H mem _ hg he hr (PostS.of (rl := RepL X.K g) he hp fun vs A1 H1 ds m s1 r1 rv p => ?_)
  split at p
  · cases rv with
    | cons r2 rt =>
      cases rt with
      | cons r3 rt =>
        cases rt
        exact ⟨_, _, rfl, p _ A1 H1 .refl r1 (((he.stab s1).set i r2).set j r3)⟩
  · exact p.elim⟩
theorem ss_par3 (hc : X.calm = true) (hN : X.N.Nodup) (hi : X.N[i]? = some x) (hj : X.N[j]? = some y) (hl : X.N[l]? = some z) (ha : SA X g γ [a, b, c] aa) (hij : i ≠ j) (hil : i ≠ l) (hjl : j ≠ l)
    (hx : X.env.scope.names.lookup x = some .local) (hy : X.env.scope.names.lookup y = some .local) (hz : X.env.scope.names.lookup z = some .local)
    (hw : swappedStores [.Tuple [.Name x px, .Name y py, .Name z pz] kt pt] (.Tuple [a, b, c] k2 pt2) X.env = pure (some [x, y, z]))
    (hs : swapsWithSole [.Tuple [.Name x px, .Name y py, .Name z pz] kt pt] (.Tuple [a, b, c] k2 pt2) pos.line X.env = pure false := by rfl) :
    SS X g γ (.Assign [.Tuple [.Name x px, .Name y py, .Name z pz] kt pt] (.Tuple [a, b, c] k2 pt2) pos) (sPar3 i j l aa) := ⟨fun W tk => by
  obtain ⟨t, pa, q⟩ := ha.out W tk
  refine ⟨_, ps_par3 hc hN hi hj hl hij hil hjl hx hy hz pa hw hs, fun σ env A H mem E hg he hr hp => ?_⟩
  refine q σ env A H mem _ hg he hr (PostS.of (rl := RepL X.K g) he hp fun vs A1 H1 ds m s1 r1 rv p => ?_)
  split at p
  · cases rv with
    | cons r2 rt =>
      cases rt with
      | cons r3 rt =>
        cases rt with
        | cons r4 rt =>
          cases rt
          exact ⟨_, _, _, rfl, p _ A1 H1 .refl r1 ((((he.stab s1).set i r2).set j r3).set l r4)⟩
  · exact p.elim⟩
end
end Ab
set_option Elab.async false
set_option linter.all false
set_option maxRecDepth 100000
namespace Ab
open PySem PySem.Spec PyProof.Rows L2
/-! ### what the top has written, class by class, def by def -/
def gOf (mg : Str → Option Value) : Glb := ⟨fun x => match mg x with | some (.ref a) => a | _ => 0, fun x => match mg x with | some (.ref a) => a | _ => 0⟩
theorem gOf_fa {mg : Str → Option Value} {x : Str} {a : Addr} (h : mg x = some (.ref a)) : (gOf mg).fa x = a := by unfold gOf; dsimp only; rw [h]
theorem gOf_ca {mg : Str → Option Value} {x : Str} {a : Addr} (h : mg x = some (.ref a)) : (gOf mg).ca x = a := by unfold gOf; dsimp only; rw [h]
section
variable {P : Program} {w : World} {K : PySem.W.Frag} {mg : Str → Option Value} {base h : Heap} {x c d qual f : Str} {st : Stmt} {k n : Nat} {af : AF} {b : Bool} {T : String}
structure DefIn (K : PySem.W.Frag) (x qual : Str) (st : Stmt) : Prop where
  ex : ∃ f fd, PySem.W.nsIn K mainGlobals x = some (some (.ref f)) ∧ Fun K x qual st f fd
theorem def_in {f : Addr} {oc : Value} {od an : Option Addr} {osl : Array (Option Value)} {kV doc pm cdv ct : Value} (a : PySem.W.nsIn K mainGlobals x = some (some (.ref f)))
    (l : K.lookup f = some ⟨oc, od, .func (PySem.W.fnOf x qual (defArgs st) (defBody st) (defScope st) .none kV doc pm an cdv ct), osl⟩)
    (cd : PySem.W.codeIn K cdv qual = true) (kp : PySem.W.keepIn K (.ref f) = true) : DefIn K x qual st := ⟨f, _, a, fun_mk l cd kp⟩
theorem fnA_of (X : K.In h) (G : h.Ns mainGlobals mg) (D : DefIn K x qual st) {ps : List Str} (hb : ∀ f fd, Fun K x qual st f fd → Binds K fd ps [])
    (ok : ∀ f fd, Fun K x qual st f fd → FnOk P w K mg base (L2.CX P w) k f fd ps (spOf K (gOf mg) n af)) : FnA P w K mg base (gOf mg) k x n af := by
  obtain ⟨f, fd, e, F⟩ := D.ex
  have hm := PySem.W.mg_of X G e
  exact ⟨f, fd, ps, hm, gOf_fa hm, F.kp, hb f fd F, ok f fd F⟩
theorem bindsA {x qual : Str} {st : Stmt} {f : Addr} {fd : FuncData} {p : Str} (F : Fun K x qual st f fd) (s : Shared) (v : Value) (e : ∀ (kV doc pm : Value) (an : Option Addr) (cdv ct : Value), bindArgs (PySem.W.fnOf x qual (defArgs st) (defBody st) (defScope st) .none kV doc pm an cdv ct) ⟨[v], []⟩ = pure [(p, v)]) : BindsTo s fd ⟨[v], []⟩ [(p, v)] := by
  obtain ⟨oc, od, kV, doc, pm, an, cdv, ct, osl, rfl, _, _⟩ := F.ex
  exact .of_eq (e kV doc pm an cdv ct)
structure ClsIn (K : PySem.W.Frag) (c qual : Str) (st : Stmt) : Prop where
  ex : ∃ C f fd, PySem.W.nsIn K mainGlobals c = some (some (.ref C)) ∧ Cls K C ∧ Mk K C f ∧ Fun K "__init__" qual st f fd
theorem cls_in {C f : Addr} {oc : Value} {od an : Option Addr} {osl : Array (Option Value)} {kV doc pm cdv ct : Value} (aC : PySem.W.nsIn K mainGlobals c = some (some (.ref C)))
    (pg : PySem.W.plainGet K C Str.empty = true) (hd : PySem.W.hasDictIn K C = true) (po : PySem.W.plainOver K C = true) (sa : PySem.W.findIn K (.ref C) "__setattr__" = some (some (.builtin "object.__setattr__")))
    (mk : PySem.W.makesIn K C = true) (kc : PySem.W.keepIn K (.ref C) = true) (a1 : PySem.W.findIn K (.ref C) "__init__" = some (some (.ref f))) (i1 : PySem.W.isFn K (.ref f) = true)
    (l : K.lookup f = some ⟨oc, od, .func (PySem.W.fnOf "__init__" qual (defArgs st) (defBody st) (defScope st) .none kV doc pm an cdv ct), osl⟩)
    (cd : PySem.W.codeIn K cdv qual = true) (kp : PySem.W.keepIn K (.ref f) = true) : ClsIn K c qual st :=
  ⟨C, f, _, aC, ⟨pg, hd, po, sa⟩, ⟨mk, a1, i1, kc⟩, fun_mk l cd kp⟩
theorem ClsIn.cls (X : K.In h) (G : h.Ns mainGlobals mg) (D : ClsIn K c qual st) : Cls K ((gOf mg).ca c) := by
  obtain ⟨C, f, fd, e, h1, _⟩ := D.ex
  rw [gOf_ca (PySem.W.mg_of X G e)]
  exact h1
theorem mkA_of (X : K.In h) (G : h.Ns mainGlobals mg) (D : ClsIn K c qual st) {ps : List Str} (hb : ∀ f fd, Fun K "__init__" qual st f fd → Binds K fd ps [])
    (ok : ∀ f fd, Fun K "__init__" qual st f fd → FnOk P w K mg base (L2.CX P w) k f fd ps (spOf K (gOf mg) n af)) : MkA P w K mg base (gOf mg) k c n af := by
  obtain ⟨C, f, fd, e, h1, h2, F⟩ := D.ex
  have hm := PySem.W.mg_of X G e
  have e2 := gOf_ca hm
  refine ⟨f, fd, ps, ?_, ?_, hb f fd F, ok f fd F⟩
  · rw [e2]; exact h2
  · rw [e2]; exact hm
structure NoIn (K : PySem.W.Frag) (c f : Str) : Prop where
  ex : ∃ C, PySem.W.nsIn K mainGlobals c = some (some (.ref C)) ∧ PySem.W.findIn K (.ref C) f = some none
theorem no_in {C : Addr} (aC : PySem.W.nsIn K mainGlobals c = some (some (.ref C))) (a : PySem.W.findIn K (.ref C) f = some none) : NoIn K c f := ⟨C, aC, a⟩
theorem NoIn.no (X : K.In h) (G : h.Ns mainGlobals mg) (D : NoIn K c f) : NoAttr K ((gOf mg).ca c) f := by
  obtain ⟨C, e, h1⟩ := D.ex
  rw [gOf_ca (PySem.W.mg_of X G e)]
  exact h1
theorem g_of {C : Addr} (X : K.In h) (G : h.Ns mainGlobals mg) (e : PySem.W.nsIn K mainGlobals c = some (some (.ref C))) : mg c = some (.ref ((gOf mg).ca c)) := by
  have hm := PySem.W.mg_of X G e
  rw [gOf_ca hm]; exact hm
structure ErrIn (K : PySem.W.Frag) (c qual : Str) (st : Stmt) : Prop where
  ex : ∃ C f fd, PySem.W.nsIn K mainGlobals c = some (some (.ref C)) ∧ OexC K C ∧ ExcC K C ∧ PySem.W.findIn K (.ref C) "__init__" = some (some (.ref f)) ∧ PySem.W.typeIn K (.ref f) = some (.type "function") ∧ Fun K "__init__" qual st f fd
theorem err_in {C f : Addr} {oc : Value} {od an : Option Addr} {osl : Array (Option Value)} {kV doc pm cdv ct : Value}
    {nm q : Str} {N : Addr} {bs bm : List Value} {sn : List Str} {sub : List Value} {ab : Bool} {col : Option Bool} {dd : Option Addr} {m0 m1 m2 m3 m5 : Option Value} (aC : PySem.W.nsIn K mainGlobals c = some (some (.ref C)))
    (xL : K.lookup C = some (excClassObj nm q C N bs bm true sn sub ab col dd m0 m1 m2 m3 m5 "ValueError.__new__"))
    (sa : PySem.W.findIn K (.ref C) "__setattr__" = some (some (.builtin "object.__setattr__"))) (eC : PySem.W.subIn K (.ref C) (.type "BaseException") = some true) (tC : PySem.W.typeIn K (.ref C) = some (.type "type")) (kC : PySem.W.keepIn K (.ref C) = true)
    (ga : PySem.W.findIn K (.ref C) "__getattribute__" = some (some (.builtin "BaseException.__getattribute__"))) (gg : PySem.W.findIn K (.ref C) "__getattr__" = some none) (hC : PySem.W.hasDictIn K C = true)
    (gc : PySem.W.findIn K (.ref C) "__class__" = some (some (.builtin "object.__class__"))) (gs : PySem.W.specialIn K (.builtin "object.__class__") "__get__" = some (some (.builtin "getset_descriptor.__get__"))) (gt : PySem.W.takesIn K (.builtin "object.__class__") = some true) (gm : PySem.W.mroIn K C (.type "object") = some true)
    (a1 : PySem.W.findIn K (.ref C) "__init__" = some (some (.ref f))) (i1 : PySem.W.typeIn K (.ref f) = some (.type "function"))
    (l : K.lookup f = some ⟨oc, od, .func (PySem.W.fnOf "__init__" qual (defArgs st) (defBody st) (defScope st) .none kV doc pm an cdv ct), osl⟩)
    (cd : PySem.W.codeIn K cdv qual = true) (kp : PySem.W.keepIn K (.ref f) = true) (hbm : PySem.HandSPX.refsVE bm = true) : ErrIn K c qual st :=
  ⟨C, f, _, aC, ⟨⟨nm, q, N, bs, bm, sn, sub, ab, col, dd, m0, m1, m2, m3, m5, xL, hbm⟩, sa, eC, tC, kC⟩, ⟨ga, gg, eC, hC, gc, gs, gt, gm⟩, a1, i1, fun_mk l cd kp⟩
theorem ErrIn.g (X : K.In h) (G : h.Ns mainGlobals mg) (D : ErrIn K c qual st) : mg c = some (.ref ((gOf mg).ca c)) := by
  obtain ⟨C, f, fd, e, _⟩ := D.ex
  exact g_of X G e
theorem ErrIn.exc (X : K.In h) (G : h.Ns mainGlobals mg) (D : ErrIn K c qual st) : ExcC K ((gOf mg).ca c) := by
  obtain ⟨C, f, fd, e, _, h1, _⟩ := D.ex
  rw [gOf_ca (PySem.W.mg_of X G e)]
  exact h1
theorem ErrIn.er0 (X : K.In h) (G : h.Ns mainGlobals mg) (D : ErrIn K c qual st) (hb : ∀ f fd, Fun K "__init__" qual st f fd → Binds K fd ["self"] []) (S : FnScope ["self"] ["self"] (defScope st)) (hp : ∃ p, defBody st = [.Pass p]) : Er0 P w K mg base (gOf mg) c := by
  obtain ⟨C, f, fd, e, h1, _, h2, h3, F⟩ := D.ex
  have hm := PySem.W.mg_of X G e
  have e2 := gOf_ca hm
  refine ⟨f, fd, ?_, ?_, ?_, h3, hb f fd F, init0 F S hp⟩
  · rw [e2]; exact h1
  · rw [e2]; exact hm
  · rw [e2]; exact h2
theorem ErrIn.er1 (X : K.In h) (G : h.Ns mainGlobals mg) (D : ErrIn K c qual st) (N : NoIn K c f) (hb : ∀ a fd, Fun K "__init__" qual st a fd → Binds K fd ["self", f] []) (S : FnScope ["self", f] ["self", f] (defScope st))
    (hp : ∀ a cdv A outer s H E, PSs (cxOf CX0 P w K mg base ["self", f] qual (defScope st) a cdv A outer s H E).nox (defBody st) (tOst K f (tVar 0) (tVar 1))) : Er1 P w K mg base (gOf mg) c f := by
  obtain ⟨C, a, fd, e, h1, _, h2, h3, F⟩ := D.ex
  have hm := PySem.W.mg_of X G e
  have e2 := gOf_ca hm
  have n := N.no X G
  rw [e2] at n
  refine ⟨a, fd, ?_, ?_, ?_, h3, ?_, hb a fd F, init1 F S (hp a)⟩
  · rw [e2]; exact h1
  · rw [e2]; exact hm
  · rw [e2]; exact h2
  · rw [e2]; exact n
structure ExmIn (K : PySem.W.Frag) (c d : Str) (b : Bool) : Prop where
  ex : ∃ C D, PySem.W.nsIn K mainGlobals c = some (some (.ref C)) ∧ PySem.W.nsIn K mainGlobals d = some (some (.ref D)) ∧ PySem.W.exmOne K (.ref C) (.ref D) = some b ∧ PySem.W.kitOne K (.ref C) (.ref D) = some b
theorem exm_in {C D : Addr} (e1 : PySem.W.nsIn K mainGlobals c = some (some (.ref C))) (e2 : PySem.W.nsIn K mainGlobals d = some (some (.ref D))) (h1 : PySem.W.subIn K (.ref D) (.type "BaseException") = some true) (h2 : PySem.W.isClsIn K D = true) (h3 : PySem.W.typeIn K (.ref D) = some (.type "type"))
    (h4 : PySem.W.subIn K (.ref C) (.ref D) = some b) (h5 : ((Value.ref C == Value.ref D) = true → b = true)) : ExmIn K c d b := by
  have k1 : (PySem.W.subIn K (.ref D) (.type "BaseException") == some true) = true := by rw [h1]; rfl
  have k2 : ((PySem.W.clsIn K D).isSome && PySem.W.typeIn K (.ref D) == some (.type "type")) = true := by
    have h2' : (PySem.W.clsIn K D).isSome = true := h2
    rw [h2', h3] <;> rfl
  have k3 : PySem.W.kitCls K (.ref C) (.ref D) = some b := by
    show (if ((PySem.W.clsIn K D).isSome && PySem.W.typeIn K (.ref D) == some (.type "type")) = true then PySem.W.subIn K (.ref C) (.ref D) else none) = some b
    rw [if_pos k2]; exact h4
  refine ⟨C, D, e1, e2, ?_, ?_⟩
  · unfold PySem.W.exmOne
    rw [if_pos k1]; exact k3
  · unfold PySem.W.kitOne
    by_cases z : (Value.ref C == Value.ref D) = true
    · rw [if_pos z, h5 z]
    · rw [if_neg z]; exact k3
theorem ExmIn.exm (X : K.In h) (G : h.Ns mainGlobals mg) (D : ExmIn K c d b) : PySem.W.exmOne K (.ref ((gOf mg).ca c)) (.ref ((gOf mg).ca d)) = some b := by
  obtain ⟨C, D, e1, e2, h1, _⟩ := D.ex
  rw [gOf_ca (PySem.W.mg_of X G e1), gOf_ca (PySem.W.mg_of X G e2)]
  exact h1
theorem ExmIn.kit (X : K.In h) (G : h.Ns mainGlobals mg) (D : ExmIn K c d b) : PySem.W.kitOne K (.ref ((gOf mg).ca c)) (.ref ((gOf mg).ca d)) = some b := by
  obtain ⟨C, D, e1, e2, _, h1⟩ := D.ex
  rw [gOf_ca (PySem.W.mg_of X G e1), gOf_ca (PySem.W.mg_of X G e2)]
  exact h1
structure KitTy (K : PySem.W.Frag) (c : Str) (T : String) (b : Bool) : Prop where
  ex : ∃ C, PySem.W.nsIn K mainGlobals c = some (some (.ref C)) ∧ PySem.W.kitOne K (.ref C) (.type T) = some b
theorem kit_ty' {C : Addr} (e1 : PySem.W.nsIn K mainGlobals c = some (some (.ref C))) (hm : PySem.W.kitMeta T = true) (h4 : PySem.W.subIn K (.ref C) (.type T) = some b) : KitTy K c T b := by
  refine ⟨C, e1, ?_⟩
  unfold PySem.W.kitOne
  rw [if_neg (by intro z; cases (beq_iff_eq.mp z))]
  show (if PySem.W.kitMeta T = true then PySem.W.subIn K (.ref C) (.type T) else none) = some b
  rw [if_pos hm]; exact h4
theorem KitTy.kit (X : K.In h) (G : h.Ns mainGlobals mg) (D : KitTy K c T b) : PySem.W.kitOne K (.ref ((gOf mg).ca c)) (.type T) = some b := by
  obtain ⟨C, e1, h1⟩ := D.ex
  rw [gOf_ca (PySem.W.mg_of X G e1)]
  exact h1
/-- a script: a list of ints that nothing writes -/
theorem sp_script {g : Glb} {H : Hp} {a : Addr} {ns : List Int} (hO : Only H) (hS : SqL K H a (ns.map V.int)) (hl : ∃ m, af [.ref 0] [.rol (ns.map D.int)] = .ok (.bl true) m) {Q : VK} {E : XK} (hq : ∀ H', Q (.bl true) H') : spOf K g 1 af [.ref a] H Q E := by
  obtain ⟨m, hl⟩ := hl
  have hf : SqF K H a (ns.map V.int) := by
    rcases hS with (h | ⟨o, h⟩) | h
    · rcases hO a with z | ⟨o, xs, z⟩
      · rw [z] at h; cases h
      · rw [z] at h; cases h
    · exact .inl ⟨o, h⟩
    · exact .inr h
  have hv : ∀ (xs : List Int), RepL K g [a] H (xs.map V.int) (xs.map D.int) := by
    intro xs
    induction xs with
    | nil => exact .nil
    | cons x r ih => exact .cons (.int x) ih
  refine ⟨rfl, [a], [.rol (ns.map D.int)], [.ref 0], ⟨rfl, ?_, ?_⟩, .cons (.ref rfl) .nil, ?_⟩
  · intro i j b y z h1 h2 h3 h4 t1 t2
    match i, h3 with
    | 0, h3 => cases h3; cases t1
    | i + 1, h3 => simp at h3
  · intro i b y h1 h2
    match i, h1, h2 with
    | 0, h1, h2 => cases h1; cases h2; exact ⟨_, hf, hv ns⟩
    | i + 1, h1, h2 => simp at h1
  · rw [hl]
    intro v A2 H2 s2 r2 rv
    cases rv
    exact hq H2
/-- the law's promise -/
def spL (K : PySem.W.Frag) : Sp := fun vs H Q _ => ∃ (a : Addr) (ns : List Int), vs = [.ref a] ∧ ns.length ≤ 63 ∧ Only H ∧ SqL K H a (ns.map V.int) ∧ ∀ H', Q (.bl true) H'
theorem fn_law {CX : CXT} {f : Addr} {fd : FuncData} {ps : List Str} {g : Glb} (F : FnOk P w K mg base CX k f fd ps (spOf K g 1 af)) (hl : ∀ ns : List Int, ns.length ≤ 63 → ∃ m, af [.ref 0] [.rol (ns.map D.int)] = .ok (.bl true) m) : FnOk P w K mg base CX k f fd ps (spL K) :=
  F.imp fun vs H Q E h => by
    obtain ⟨a, ns, rfl, h1, h2, h3, h4⟩ := h
    exact sp_script h2 h3 (hl ns h1) h4
def look : List (Str × Str × Bool) → Str → Str → Option Bool
  | [], _, _ => none
  | (c, h, b) :: r, x, y => if c = x ∧ h = y then some b else look r x y
theorem look_mem {x y : Str} {b : Bool} : ∀ {t : List (Str × Str × Bool)}, look t x y = some b → (x, y, b) ∈ t
  | [], h => by cases h
  | (c, h', b') :: r, h => by
    unfold look at h
    by_cases e : c = x ∧ h' = y
    · rw [if_pos e] at h
      cases h
      obtain ⟨rfl, rfl⟩ := e
      exact List.mem_cons_self
    · rw [if_neg e] at h
      exact List.mem_cons_of_mem _ (look_mem h)
def AllT (p : Str → Str → Bool → Prop) : List (Str × Str × Bool) → Prop
  | [] => True
  | (c, h, b) :: r => p c h b ∧ AllT p r
theorem look_all {p : Str → Str → Bool → Prop} {x y : Str} {b : Bool} : ∀ {t : List (Str × Str × Bool)}, AllT p t → look t x y = some b → p x y b
  | [], _, h => by cases h
  | (c, h', b') :: r, ha, h => by
    unfold look at h
    by_cases e : c = x ∧ h' = y
    · rw [if_pos e] at h
      cases h
      obtain ⟨rfl, rfl⟩ := e
      exact ha.1
    · rw [if_neg e] at h
      exact look_all ha.2 h
theorem walkA {l : PySem.W.OpenLaw} {q : Program} {loose : List Str} {XP : (Str → Option Value) → Heap → Prop} {YP : World → Heap → Prop} {d : DefRec} {K : Params → PySem.W.Frag} {x : Str} (hn : l.most = some 63) (hdf : d.params.defaults = [])
    (hr : Room k callerA) (hY : ∀ (w : World) (h : Heap), YP w h → (K w.params).In h)
    (F : ∀ (w : World) (mg : Str → Option Value) (fa : Addr) (h : Heap), (K w.params).In h → h.Ns mainGlobals mg → mg d.name = some (.ref fa) →
      ∃ fd : FuncData, (∀ (s : Shared) (u : Value), BindsTo s fd ⟨[u], []⟩ [(x, u)]) ∧ ∀ base : Heap, (K w.params).In base → base.Ns mainGlobals mg → FnOk l.prog w (K w.params) mg base (L2.CX l.prog w) k fa fd [x] (spL (K w.params))) :
    PySem.W.WalkO q loose XP YP l.row.toRowW d [] (fun f vs => PySem.call f vs) :=
  L2.walk_of (n := 63) (k := k) (x := x) (CX := fun w => L2.CX l.prog w) (sp := fun w => spL (K w.params)) hn (by decide) hdf hr hY F (fun _ _ a ns hl hO hS => ⟨a, ns, rfl, hl, hO, hS, fun _ => rfl⟩) fun _ _ _ _ _ ⟨_, _, _, _, _, _, _, _, _, _, _, _, z⟩ => z
end
end Ab
set_option Elab.async false
set_option linter.all false
set_option maxRecDepth 100000
/-! # isinstance of two classes, how many a set of ints has -/
namespace L2
open PySem PySem.Spec PyProof.Rows
/-- a list, each item once -/
def ddI (ns : List Int) : List Int := ns.foldl (fun acc x => if acc.any (· == x) then acc else acc ++ [x]) []
theorem met_dd (ns : List Int) : ∀ i, i ≤ ns.length → PyProof.Rows.firstMet (fun j => ns.getD j 0) i = ddI (ns.take i)
  | 0, _ => rfl
  | i + 1, hi => by
    have hlt : i < ns.length := hi
    have e1 : ns.getD i 0 = ns[i] := by simp [List.getD_eq_getElem?_getD, List.getElem?_eq_getElem hlt]
    have ih := met_dd ns i (by omega)
    rw [PyProof.Rows.firstMet_succ, ih, List.take_add_one, List.getElem?_eq_getElem hlt]
    unfold ddI
    rw [List.foldl_append]
    show (if (ddI (ns.take i)).any (· == ns.getD i 0) then ddI (ns.take i) else ddI (ns.take i) ++ [ns.getD i 0]) = _
    rw [e1]; rfl
theorem dd_len (ns : List Int) : (ddI ns).length ≤ ns.length := by
  have : ∀ (ns acc : List Int), (ns.foldl (fun acc x => if acc.any (· == x) then acc else acc ++ [x]) acc).length ≤ acc.length + ns.length := by
    intro ns
    induction ns with
    | nil => intro acc; simp
    | cons x ns ih =>
      intro acc
      rw [List.foldl_cons]
      split
      · have := ih acc; rw [List.length_cons]; omega
      · have := ih (acc ++ [x]); rw [List.length_append, List.length_singleton] at this; rw [List.length_cons]; omega
  have h := this ns []
  rw [List.length_nil, Nat.zero_add] at h
  exact h
def tSetLen (K : PySem.W.Frag) (tx : TE) : TE := fun σ H Q => tx σ H fun y H1 => ∃ (at1 : Addr) (zs : List Int), y = .ref at1 ∧ SqL K H1 at1 (zs.map V.int) ∧ zs.length ≤ 4000 ∧ Q (.int ((ddI zs).length : Nat)) H1
theorem pe_setLen {X : Cx} {ex : Expr} {tx : TE} {p1 p2 p3 pos : Pos} (gl : Gl X "len") (ml : X.mg "len" = none) (gs : Gl X "set") (ms : X.mg "set" = none) (he : PE X ex tx) (calm : X.calm = true)
    (ns1 : starEach [ex] X.env = (false, eval ex X.env) :: starEach [] X.env) : PE X (.Call (.Name "len" p1) [.Call (.Name "set" p2) [ex] [] p3] [] pos) (tSetLen X.K tx) := ⟨fun pins s σ H Q I h => by
  refine Call_ (ld_blt I gl ml boot_len (PyProof.Rows.callWith_builtin1 (PyProof.Rows.args_cons ?_ rfl) rfl rfl))
  refine Call_ (ld_blt I gs ms boot_set (PyProof.Rows.callWith_type1 (PyProof.Rows.args_cons (thn (he.run pins s σ H _ I h) fun v sb ⟨y, H1, I1, r1, w1⟩ => PyProof.Rows.args_nil ?_) ns1) ns1 rfl))
  obtain ⟨at1, zs, rfl, hs, hl, w1⟩ := w1
  cases r1
  obtain ⟨its, rv, pl, hz⟩ := I1.list hs
  have sz : its.toArray.size = zs.length := by rw [List.size_toArray, ← rv.length, List.length_map]
  refine call_set_list (I1.ok.hd calm) pl.isList (by simpa using RZ.intsAre_vals rv) (by rw [sz]; unfold scanBound; omega) fun hb tb hS hk => ?_
  refine PyProof.Rows.args_nil ?_
  rw [sz, met_dd zs zs.length (Nat.le_refl _), List.take_length] at hS
  have hlen := dd_len zs
  obtain ⟨o, es, ep, t, ho, hex, hd, _, _, _, hf, hn⟩ := hS
  have I2 : Inv X pins σ H1 { sb with heap := hb, toks := tb } := I1.kept fun b o e => hk b o (Heap.lt_size e) e
  exact call_len_set ho hex hd hf (by rw [hn] <;> omega) ⟨.int (ddI zs).length, H1, I2.tok _, ⟨_, by rw [hn]⟩, w1⟩⟩
/-- sum of a tuple of ints -/
def rSumT (K : PySem.W.Frag) : List V → Hp → VK → Prop := fun ys H Q => ∃ (at1 : Addr) (zs : List Int), ys = [V.ref at1] ∧ SqT K H at1 (zs.map V.int) ∧ Q (.int zs.sum) H
theorem cr_sumT {X : Cx} (calm : X.calm = true) : CallR X (.builtin "sum") (rSumT X.K) := by
  intro pins s σ H ys us Q I r h
  obtain ⟨at1, zs, rfl, hs, q⟩ := h
  obtain ⟨its, rv, ht, _⟩ := I.tuple hs
  rw [Vals.ref1 r]
  have hi := rv.ints
  obtain ⟨xs, e⟩ := hi.allInts.items
  have hn : numsOf (intItems xs).toList = zs := by rw [← e]; exact hi.numsOf
  rw [nums_intItems] at hn
  rw [e] at ht
  refine PySem.W.ktm_sumG (I.ok.hd calm) ht fun hb tb t' hk => ⟨.int zs.sum, H, I.kept hk, ⟨t', ?_⟩, q⟩
  rw [preSum_eq, List.take_of_length_le (by simp), hn]
end L2
namespace Ab
open PySem PySem.Spec PyProof.Rows L2
section
variable {X : Cx} {g : Glb} {γ : Gam} {p pos : Pos}
def eSetLen (a : AE) : AE := fun env m => (a env m).bind fun d m => match d with
  | .ref n => match m[n]? with
    | some (.lst ds) => match intsD ds with
      | some ns => if ns.length ≤ 4000 then .ok (.int ((ddI ns).length : Nat)) m else .no
      | none => .no
    | _ => .no
  | _ => .no
theorem se_setLen {ex : Expr} {a : AE} {p1 p2 p3 : Pos} (calm : X.calm = true) (ml : X.mg "len" = none) (ms : X.mg "set" = none) (he : SE X g γ ex a) (gl : L2.Gl X "len" := by rfl) (gs : L2.Gl X "set" := by rfl)
    (ns1 : starEach [ex] X.env = (false, eval ex X.env) :: starEach [] X.env := by rfl) : SE X g γ (.Call (.Name "len" p1) [.Call (.Name "set" p2) [ex] [] p3] [] pos) (eSetLen a) := ⟨fun W tk => by
  obtain ⟨t, pe, q⟩ := he.out W tk
  refine ⟨_, pe_setLen gl ml gs ms pe calm ns1, fun σ env A H mem Q hgm her hr hp => ?_⟩
  refine q σ env A H mem _ hgm her hr (hp.bnd fun v A1 H1 d m s1 r1 rv p1 => ?_)
  split at p1
  · rename_i n
    split at p1
    · rename_i ds hm
      split at p1
      · rename_i ns hn
        split at p1
        · rename_i hl
          cases rv with
          | @ref _ a' ha =>
            obtain ⟨vs, e, l⟩ := r1.cell _ _ _ ha hm
            have ev := intsD_v hn l
            subst ev
            exact ⟨a', ns, rfl, .inl (.inl e), hl, p1 _ A1 H1 .refl r1 (.int _)⟩
        · exact p1.elim
      · exact p1.elim
    · exact p1.elim
  · exact p1.elim⟩
def bSumB : FL := fun ds m => match ds with
  | [.tup xs] => match intsD xs with
    | some ns => .ok (.int ns.sum) m
    | none => .no
  | _ => bSum ds m
theorem ca_sumB (hc : X.calm = true) : CaA X g (.builtin "sum") bSumB := by
  obtain ⟨r, hr, hr2⟩ := (ca_sum (g := g) hc).out
  refine ⟨_, caR_or (cr_sumT hc) hr, fun A H mem xs ds Q W R rs p => ?_⟩
  unfold bSumB at p
  split at p
  · rename_i ys
    obtain ⟨v, rfl, rv⟩ := repL_one rs
    split at p
    · rename_i ns hn
      cases rv with
      | @tup a vs ds' hq l =>
        have e := intsD_v hn l
        subst e
        exact .inl ⟨a, ns, rfl, hq.t, p _ A H .refl R (.int _)⟩
    · exact p.elim
  · exact .inr (hr2 A H mem xs ds Q W R rs p)
/-- isinstance(x, (S, T)) -/
def eIsi2 (S T : String) (a : AE) : AE := fun env m => (a env m).bind fun d m => match tyN d m with
  | some t => match kitB t S, kitB t T with
    | some b1, some b2 => .ok (.bl (b1 || b2)) m
    | _, _ => .no
  | none => .no
theorem se_isi2 {S T : String} {ex : Expr} {a : AE} {p1 p2 pt : Pos} {k : Nat} {s t : Str} (hm : X.mg "isinstance" = none) (hS : X.mg s = none) (hT : X.mg t = none) (vS : bootBuiltins s = some (.type S)) (vT : bootBuiltins t = some (.type T)) (he : SE X g γ ex a)
    (hg : L2.Gl X "isinstance" := by rfl) (gS : L2.Gl X s := by rfl) (gT : L2.Gl X t := by rfl) (nS : s ≠ "__name__" := by decide) (nT : t ≠ "__name__" := by decide) (dS : (s == ("__debug__" : Str)) = false := by decide) (dT : (t == ("__debug__" : Str)) = false := by decide)
    (hvi : bootBuiltins "isinstance" = some (.builtin "isinstance") := by decide +kernel)
    (hs : starEach [ex, .Tuple [.Name s p1, .Name t p2] k pt] X.env = (false, eval ex X.env) :: starEach [.Tuple [.Name s p1, .Name t p2] k pt] X.env := by rfl) (hpl : (backTo pos (starEach [.Tuple [.Name s p1, .Name t p2] k pt] X.env)).any (·.1) = false := by rfl)
    (hs2 : starEach [.Tuple [.Name s p1, .Name t p2] k pt] X.env = (false, eval (.Tuple [.Name s p1, .Name t p2] k pt) X.env) :: starEach [] X.env := by rfl)
    (hs3 : starEach [.Name s p1, .Name t p2] X.env = (false, eval (.Name s p1) X.env) :: starEach [.Name t p2] X.env := by rfl) (hs4 : starEach [.Name t p2] X.env = (false, eval (.Name t p2) X.env) :: starEach [] X.env := by rfl) :
    SE X g γ (.Call (.Name "isinstance" p) [ex, .Tuple [.Name s p1, .Name t p2] k pt] [] pos) (eIsi2 S T a) := ⟨fun W tk => by
  obtain ⟨te, pe, q⟩ := he.out W tk
  refine ⟨_, pe_callB call_isiT hg hm hvi (pa_cons pe (pa_cons (pe_tup (pa_cons (pe_bltn (v := .ty S) gS hS vS rfl nS dS) (pa_cons (pe_bltn (v := .ty T) gT hT vT rfl nT dT) pa_nil hs4) hs3)) pa_nil hs2) hs) (by decide) (by decide) hs hpl, fun σ env A H mem Q hgm her hr hp => ?_⟩
  refine q σ env A H mem _ hgm her hr (hp.bnd fun v A1 H1 d m s1 r1 rv p1 => ?_)
  split at p1
  · rename_i t' ht
    split at p1
    · rename_i b1 b2 hb1 hb2
      refine ⟨by show 2 ≤ sizeLine; rw [show sizeLine = 2 ^ 24 from rfl]; omega, fun tp htp => ?_⟩
      obtain ⟨s2, r2⟩ := r1.new (o := .tup [.ty S, .ty T]) htp
      refine ⟨v, tp, [.ty S, .ty T], .type t', [.type S, .type T], b1 || b2, rfl, upd_same, .cons (.ty S) (.cons (.ty T) .nil), tyN_x r2 (rv.stab s2) ht, ?_, p1 _ A1 _ s2 r2 (.bl _)⟩
      refine kitAny_cons (kit_ty hb1) (fun z => ?_) (fun z => by rw [z]; rfl)
      rw [z, Bool.false_or]
      exact kitAny_cons (kit_ty hb2) (fun z => by rw [z]; exact kitAny_nil) (fun z => z)
    · exact p1.elim
  · exact p1.elim⟩
end
/-- a block within a block that captures nothing -/
def noSc : Scope := { kind := .function, names := [], isGenerator := false, isCoroutine := false, more := [] }
theorem blkOk_any {N : List Str} {sc scope : Scope} {own : List (Str × Nat)} (h : blkC N noSc scope own = true) : BlkOk N sc scope own := by
  have b := blkOk_by h
  refine ⟨b.kind, b.uniq, b.ix, fun y hy hf => ?_, b.own⟩
  rcases b.free y hy hf with z | z <;> cases z
/-- a def of which nothing is promised -/
theorem fn_none {P : Program} {w : World} {K : PySem.W.Frag} {mg : Str → Option Value} {base : Heap} {g : Glb} {k n : Nat} {f : Addr} {fd : FuncData} {ps : List Str} : FnOk P w K mg base (L2.CX P w) k f fd ps (spOf K g n fun _ _ => .no) := by
  refine ⟨fun vs H Q E h => ?_, fun A outer s H args us vs Q E hr he hb hv h => ?_⟩
  · obtain ⟨_, A, mem, ds, _, _, p⟩ := h; exact p.elim
  · obtain ⟨_, A, mem, ds, _, _, p⟩ := h; exact p.elim
end Ab
set_option Elab.async false
set_option linter.all false
set_option maxRecDepth 100000
set_option maxHeartbeats 4000000
namespace Cl
open PySem PySem.Spec PyProof.Rows L2 Ab
def topS (i : Nat) : Stmt := PySem.Challenge.pw_bigcorners_k02_whole_rims_words_and_asks.main.body.getD i (.Pass ⟨0, 0, 0, 0⟩)
def clsS (i j : Nat) : Stmt := match topS i with
  | .ClassDef _ _ _ body _ _ _ _ _ _ _ => body.getD j (.Pass ⟨0, 0, 0, 0⟩)
  | _ => .Pass ⟨0, 0, 0, 0⟩
theorem _root_.Ab.CxA.tr {X : Cx} {k : Nat} (h : CxA X k) (pn : List (Addr × Obj)) (xe : Value → Shared → Prop) (ho : PassesOwn (model X.prog X.w) X.A X.env xe) : CxA (X.tr pn xe) k := ⟨h.calm, h.nd, ho, h.hr⟩

/-- the errors that are raised, and what they are -/
def exT : List (Str × Str × Bool) := []
def isx (h : Str) (x : Ex) : Option Bool := if x.d = none then look exT x.c h else none
structure Txt (P : Program) (w : World) (K : PySem.W.Frag) (mg : Str → Option Value) (base : Heap) (g : Glb) : Prop where
  b_abs : mg "abs" = none
  b_all : mg "all" = none
  b_bool : mg "bool" = none
  b_enumerate : mg "enumerate" = none
  b_int : mg "int" = none
  b_isinstance : mg "isinstance" = none
  b_len : mg "len" = none
  b_list : mg "list" = none
  b_min : mg "min" = none
  b_range : mg "range" = none
  b_set : mg "set" = none
  b_sorted : mg "sorted" = none
  b_sum : mg "sum" = none
  b_tuple : mg "tuple" = none
  b_zip : mg "zip" = none
  c_MOST_PLACES : ∃ t, mg "MOST_PLACES" = some (.int 40 t)
  c_MOST_ARROWS : ∃ t, mg "MOST_ARROWS" = some (.int 80 t)
  c_MOST_PRICE : ∃ t, mg "MOST_PRICE" = some (.int 1000 t)
  cls_Chart : Cls K (g.ca "Chart")
  nf_arrows : NoAttr K (g.ca "Chart") "arrows"
  nf_outer : NoAttr K (g.ca "Chart") "outer"
  nf_places : NoAttr K (g.ca "Chart") "places"
  nf_prices : NoAttr K (g.ca "Chart") "prices"
  nf_rounds : NoAttr K (g.ca "Chart") "rounds"
  g_BadChart : mg "BadChart" = some (.ref (g.ca "BadChart"))
  g_NoArrow : mg "NoArrow" = some (.ref (g.ca "NoArrow"))
  g_NoEnd : mg "NoEnd" = some (.ref (g.ca "NoEnd"))
  er_BadChart : Er1 P w K mg base g "BadChart" "part"
  er_NoArrow : Er0 P w K mg base g "NoArrow"
  er_NoEnd : Er0 P w K mg base g "NoEnd"
noncomputable def a_is_whole : AS :=
  sRet (eAnd (eIsi "int" (eVar 0)) (eNot (eIsi "bool" (eVar 0))))
noncomputable def f_is_whole : AF := afOf 1 a_is_whole
noncomputable def a_is_between : AS :=
  sRet (eAnd (eCall f_is_whole (aCons (eVar 0) (aNil))) (eChain dLe dLe (eVar 1) (eVar 0) (eVar 2)))
noncomputable def f_is_between : AF := afOf 3 a_is_between
noncomputable def a_is_row : AS :=
  sRet (eAnd (eIsi "tuple" (eVar 0)) (eOp dEq (eCall bLen (aCons (eVar 0) (aNil))) (eVar 1)))
noncomputable def f_is_row : AF := afOf 2 a_is_row
noncomputable def a_are_whole : AS :=
  sRet (eCall (bAll true) (aCons (eLc (iE (eVar 0)) (gN 1) (tYesA) (eCall f_is_whole (aCons (eVar 1) (aNil))) [1]) (aNil)))
noncomputable def f_are_whole : AF := afOf 2 a_are_whole
noncomputable def a_begun_least : AS :=
  sSeq (sAsg (eMt isT mTIndex (eVar 0) (aCons (eCall bMin (aCons (eVar 0) (aNil))) (aNil))) (gN 1))
    (sRet (eOp dAdd (eSl (eVar 0) (oSome (eVar 1)) (oNone)) (eSl (eVar 0) (oNone) (oSome (eVar 1)))))
noncomputable def f_begun_least : AF := afOf 2 a_begun_least
noncomputable def a_least_beside : AS :=
  sRet (eOp dIx (eLc (iE (eVar 0)) (gN 2) (tVal (eOp dIn (eVar 1) (eVar 2))) (eOp dIx (eVar 2) (eC (.int 0))) [2]) (eC (.int 0)))
noncomputable def f_least_beside : AF := afOf 3 a_least_beside
noncomputable def a_other_end : AS :=
  sRet (eOp dXor (eVar 0) (eC (.int 1)))
noncomputable def f_other_end : AF := afOf 1 a_other_end
noncomputable def a_rim_from : AS :=
  sSeq (sAsg (eCall mkLst (aCons (eVar 1) (aNil))) (gN 2))
    (sSeq (sAsg (eOp dIx (eVar 0) (eCall f_other_end (aCons (eVar 1) (aNil)))) (gN 3))
    (sSeq (sWhile (tVal (eOp dNe (eVar 3) (eVar 1)))
    (sSeq (sExp (eMt isL mAppend (eVar 2) (aCons (eVar 3) (aNil))))
    (sAsg (eOp dIx (eVar 0) (eCall f_other_end (aCons (eVar 3) (aNil)))) (gN 3))))
    (sRet (eCall bTuple (aCons (eVar 2) (aNil))))))
noncomputable def f_rim_from : AF := afOf 4 a_rim_from
noncomputable def a_rims_between : AS :=
  sSeq (sAsg (eCall (fun _ => mkDic []) aNil) (gN 1))
    (sSeq (sFor (iE (eVar 0)) (gN 2)
    (sFor (iA enm (aCons (eVar 2) (aNil))) (gT 2 (gsCons (gN 3) (gsCons (gN 4) (gsNil))))
    (sAsg (eOp dIx (eVar 2) (eOp dSub (eVar 3) (eC (.int 1)))) (gS dSet (eVar 1) (eVar 4)))))
    (sSeq (sAsg (eCall mkLst (aNil)) (gN 5))
    (sSeq (sAsg (eCall (fun _ => mkDic []) aNil) (gN 6))
    (sSeq (sFor (iA rng1 (aCons (eCall bLen (aCons (eVar 1) (aNil))) (aNil))) (gN 7)
    (sIf (tVal (eOp dNotIn (eVar 7) (eVar 6)))
    (sSeq (sAsg (eCall f_rim_from (aCons (eVar 1) (aCons (eVar 7) (aNil)))) (gN 8))
    (sSeq (sFor (iE (eVar 8)) (gN 9)
    (sAsg (eC (.bl true)) (gS dSet (eVar 6) (eVar 9))))
    (sExp (eMt isL mAppend (eVar 5) (aCons (eVar 8) (aNil))))))
    (sSkip)))
    (sRet (eVar 5))))))
noncomputable def f_rims_between : AF := afOf 10 a_rims_between
noncomputable def a_hang_together : AS :=
  sSeq (sAsg (eDisp (dpCons (eC (.int 0)) (eC (.bl true)) (dpNil))) (gN 2))
    (sSeq (sAsg (eC (.bl true)) (gN 3))
    (sSeq (sWhile (tVal (eVar 3))
    (sSeq (sAsg (eC (.bl false)) (gN 3))
    (sFor (iE (eVar 1)) (gT 2 (gsCons (gN 4) (gsCons (gN 5) (gsNil))))
    (sIf (tVal (eOp dNe (eOp dIn (eVar 4) (eVar 2)) (eOp dIn (eVar 5) (eVar 2))))
    (sSeq (sAsg (eC (.bl true)) (gS dSet (eVar 2) (eVar 4)))
    (sSeq (sAsg (eC (.bl true)) (gS dSet (eVar 2) (eVar 5)))
    (sAsg (eC (.bl true)) (gN 3))))
    (sSkip)))))
    (sRet (eOp dEq (eCall bLen (aCons (eVar 2) (aNil))) (eVar 0)))))
noncomputable def f_hang_together : AF := afOf 6 a_hang_together
noncomputable def a_is_price : AS :=
  sRet (eOr (eOp dIsN (eVar 0) (eC .non)) (eCall f_is_between (aCons (eVar 0) (aCons (eC (.int 1)) (aCons (eC (.int 1000)) (aNil))))))
noncomputable def f_is_price : AF := afOf 1 a_is_price
noncomputable def a_wrong_arrow : AS :=
  sSeq (sIf (tOrr (tNt (tVal (eIsi "tuple" (eVar 1)))) (tNt (tVal (eChain dLe dLe (eC (.int 1)) (eCall bLen (aCons (eVar 1) (aNil))) (eC (.int 80))))))
    (sRet (eCall mkTup (aCons (eC (.str "arrows")) (aNil))))
    (sSkip))
    (sSeq (sFor (iA enm (aCons (eVar 1) (aNil))) (gT 2 (gsCons (gN 2) (gsCons (gN 3) (gsNil))))
    (sIf (tOrr (tNt (tVal (eCall f_is_row (aCons (eVar 3) (aCons (eC (.int 2)) (aNil)))))) (tNt (tVal (eCall (bAll true) (aCons (eLc (iE (eVar 3)) (gN 4) (tYesA) (eCall f_is_between (aCons (eVar 4) (aCons (eC (.int 0)) (aCons (eOp dSub (eVar 0) (eC (.int 1))) (aNil))))) [4]) (aNil))))))
    (sRet (eCall mkTup (aCons (eC (.str "arrow")) (aCons (eVar 2) (aNil)))))
    (sSkip)))
    (sRet (eC .non)))
noncomputable def f_wrong_arrow : AF := afOf 5 a_wrong_arrow
noncomputable def a_ends_by_place : AS :=
  sSeq (sAsg (eLc (iA rng1 (aCons (eVar 0) (aNil))) (gN 6) (tYesA) (eCall mkLst (aNil)) [6]) (gN 2))
    (sSeq (sFor (iA enm (aCons (eVar 1) (aNil))) (gT 2 (gsCons (gN 3) (gsCons (gT 2 (gsCons (gN 4) (gsCons (gN 5) (gsNil)))) (gsNil))))
    (sSeq (sExp (eMt isL mAppend (eOp dIx (eVar 2) (eVar 4)) (aCons (eOp dMul (eC (.int 2)) (eVar 3)) (aNil))))
    (sExp (eMt isL mAppend (eOp dIx (eVar 2) (eVar 5)) (aCons (eOp dAdd (eOp dMul (eC (.int 2)) (eVar 3)) (eC (.int 1))) (aNil))))))
    (sRet (eVar 2)))
noncomputable def f_ends_by_place : AF := afOf 7 a_ends_by_place
noncomputable def a_wrong_round : AS :=
  sSeq (sIf (tNt (tVal (eCall f_is_row (aCons (eVar 2) (aCons (eVar 0) (aNil))))))
    (sRet (eCall mkTup (aCons (eC (.str "rounds")) (aNil))))
    (sSkip))
    (sSeq (sAsg (eCall f_ends_by_place (aCons (eVar 0) (aCons (eVar 1) (aNil)))) (gN 3))
    (sSeq (sFor (iA enm (aCons (eVar 2) (aNil))) (gT 2 (gsCons (gN 4) (gsCons (gN 5) (gsNil))))
    (sIf (tOrr (tNt (tVal (eCall f_is_row (aCons (eVar 5) (aCons (eCall bLen (aCons (eOp dIx (eVar 3) (eVar 4)) (aNil))) (aNil)))))) (tOrr (tNt (tVal (eCall f_are_whole (aCons (eVar 5) (aNil))))) (tVal (eOp dNe (eCall bSorted (aCons (eVar 5) (aNil))) (eOp dIx (eVar 3) (eVar 4))))))
    (sRet (eCall mkTup (aCons (eC (.str "round")) (aCons (eVar 4) (aNil)))))
    (sSkip)))
    (sRet (eC .non))))
noncomputable def f_wrong_round : AF := afOf 6 a_wrong_round
noncomputable def a_wrong_part : AS :=
  sSeq (sIf (tNt (tVal (eCall f_is_between (aCons (eVar 0) (aCons (eC (.int 1)) (aCons (eC (.int 40)) (aNil)))))))
    (sRet (eCall mkTup (aCons (eC (.str "places")) (aNil))))
    (sSkip))
    (sSeq (sAsg (eCall f_wrong_arrow (aCons (eVar 0) (aCons (eVar 1) (aNil)))) (gN 5))
    (sSeq (sIf (tVal (eOp dIsN (eVar 5) (eC .non)))
    (sAsg (eCall f_wrong_round (aCons (eVar 0) (aCons (eVar 1) (aCons (eVar 2) (aNil))))) (gN 5))
    (sSkip))
    (sSeq (sIf (tVal (eOp dNotN (eVar 5) (eC .non)))
    (sRet (eVar 5))
    (sSkip))
    (sSeq (sIf (tNt (tVal (eCall f_hang_together (aCons (eVar 0) (aCons (eVar 1) (aNil))))))
    (sRet (eCall mkTup (aCons (eC (.str "apart")) (aNil))))
    (sSkip))
    (sSeq (sIf (tVal (eOp dNe (eOp dAdd (eVar 0) (eCall bLen (aCons (eCall f_rims_between (aCons (eVar 2) (aNil))) (aNil)))) (eOp dAdd (eCall bLen (aCons (eVar 1) (aNil))) (eC (.int 2)))))
    (sRet (eCall mkTup (aCons (eC (.str "flat")) (aNil))))
    (sSkip))
    (sSeq (sIf (tNt (tVal (eCall f_is_between (aCons (eVar 3) (aCons (eC (.int 0)) (aCons (eOp dSub (eOp dMul (eC (.int 2)) (eCall bLen (aCons (eVar 1) (aNil)))) (eC (.int 1))) (aNil)))))))
    (sRet (eCall mkTup (aCons (eC (.str "outer")) (aNil))))
    (sSkip))
    (sSeq (sIf (tOrr (tNt (tVal (eCall f_is_row (aCons (eVar 4) (aCons (eCall bLen (aCons (eVar 1) (aNil))) (aNil)))))) (tNt (tVal (eCall (bAll true) (aCons (eLc (iE (eVar 4)) (gN 6) (tYesA) (eCall f_is_price (aCons (eVar 6) (aNil))) [6]) (aNil))))))
    (sRet (eCall mkTup (aCons (eC (.str "prices")) (aNil))))
    (sSkip))
    (sRet (eC .non)))))))))
noncomputable def f_wrong_part : AF := afOf 7 a_wrong_part
noncomputable def a_Chart_init : AS :=
  sSeq (sAsg (eCall f_wrong_part (aCons (eVar 1) (aCons (eVar 2) (aCons (eVar 3) (aCons (eVar 4) (aCons (eVar 5) (aNil))))))) (gN 6))
    (sSeq (sIf (tVal (eOp dNotN (eVar 6) (eC .non)))
    (sRaise1 "BadChart" "part" (eVar 6))
    (sSkip))
    (sSeq (sFldS "Chart" "places" (eVar 0) (eVar 1))
    (sSeq (sFldS "Chart" "arrows" (eVar 0) (eCall bTuple (aCons (eLc (iE (eVar 2)) (gT 2 (gsCons (gN 7) (gsCons (gN 8) (gsNil)))) (tYesA) (eCall mkTup (aCons (eVar 7) (aCons (eVar 8) (aNil)))) [7, 8]) (aNil))))
    (sSeq (sFldS "Chart" "rounds" (eVar 0) (eCall bTuple (aCons (eLc (iE (eVar 3)) (gN 9) (tYesA) (eCall f_begun_least (aCons (eVar 9) (aNil))) [9]) (aNil))))
    (sSeq (sFldS "Chart" "outer" (eVar 0) (eCall f_least_beside (aCons (eCall f_rims_between (aCons (eVar 3) (aNil))) (aCons (eVar 4) (aNil)))))
    (sFldS "Chart" "prices" (eVar 0) (eCall bTuple (aCons (eVar 5) (aNil)))))))))
noncomputable def f_Chart_init : AF := afOf 10 a_Chart_init
noncomputable def a_is_end : AS :=
  sRet (eCall f_is_between (aCons (eVar 1) (aCons (eC (.int 0)) (aCons (eOp dSub (eOp dMul (eC (.int 2)) (eCall bLen (aCons (eFld "Chart" "arrows" (eVar 0)) (aNil)))) (eC (.int 1))) (aNil)))))
noncomputable def f_is_end : AF := afOf 2 a_is_end
noncomputable def a_rims : AS :=
  sRet (eCall f_rims_between (aCons (eFld "Chart" "rounds" (eVar 0)) (aNil)))
noncomputable def f_rims : AF := afOf 1 a_rims
noncomputable def a_rim_numbers : AS :=
  sSeq (sAsg (eOp dMul (eCall mkLst (aCons (eC (.int 0)) (aNil))) (eOp dMul (eC (.int 2)) (eCall bLen (aCons (eFld "Chart" "arrows" (eVar 0)) (aNil))))) (gN 1))
    (sSeq (sFor (iA enm (aCons (eCall f_rims (aCons (eVar 0) (aNil))) (aNil))) (gT 2 (gsCons (gN 2) (gsCons (gN 3) (gsNil))))
    (sFor (iE (eVar 3)) (gN 4)
    (sAsg (eVar 2) (gS dSet (eVar 1) (eVar 4)))))
    (sRet (eVar 1)))
noncomputable def f_rim_numbers : AF := afOf 5 a_rim_numbers
noncomputable def a_rim_of : AS :=
  sSeq (sIf (tNt (tVal (eCall f_is_end (aCons (eVar 0) (aCons (eVar 1) (aNil))))))
    (sRaise0 "NoEnd")
    (sSkip))
    (sRet (eOp dIx (eCall f_rim_numbers (aCons (eVar 0) (aNil))) (eVar 1)))
noncomputable def f_rim_of : AF := afOf 2 a_rim_of
noncomputable def a_sides : AS :=
  sSeq (sIf (tNt (tVal (eCall f_is_between (aCons (eVar 1) (aCons (eC (.int 0)) (aCons (eOp dSub (eCall bLen (aCons (eFld "Chart" "arrows" (eVar 0)) (aNil))) (eC (.int 1))) (aNil)))))))
    (sRaise0 "NoArrow")
    (sSkip))
    (sSeq (sAsg (eCall f_rim_numbers (aCons (eVar 0) (aNil))) (gN 2))
    (sRet (eCall mkTup (aCons (eOp dIx (eVar 2) (eOp dAdd (eOp dMul (eC (.int 2)) (eVar 1)) (eC (.int 1)))) (aCons (eOp dIx (eVar 2) (eOp dMul (eC (.int 2)) (eVar 1))) (aNil))))))
noncomputable def f_sides : AF := afOf 3 a_sides
noncomputable def a_word_between : AS :=
  sSeq (sIf (tVal (eOp dNe (eOp dMod (eVar 0) (eC (.int 2))) (eOp dMod (eVar 1) (eC (.int 2)))))
    (sRet (eC (.str "straight")))
    (sSkip))
    (sSeq (sIf (tVal (eOp dEq (eOp dMod (eVar 0) (eC (.int 2))) (eC (.int 0))))
    (sRet (eC (.str "fork")))
    (sSkip))
    (sRet (eC (.str "meet"))))
noncomputable def f_word_between : AF := afOf 2 a_word_between
noncomputable def a_words : AS :=
  sSeq (sAsg (eOp dMul (eCall mkLst (aCons (eC (.str "")) (aNil))) (eOp dMul (eC (.int 2)) (eCall bLen (aCons (eFld "Chart" "arrows" (eVar 0)) (aNil))))) (gN 1))
    (sSeq (sFor (iE (eFld "Chart" "rounds" (eVar 0))) (gN 2)
    (sFor (iA enm (aCons (eVar 2) (aNil))) (gT 2 (gsCons (gN 3) (gsCons (gN 4) (gsNil))))
    (sAsg (eCall f_word_between (aCons (eOp dIx (eVar 2) (eOp dSub (eVar 3) (eC (.int 1)))) (aCons (eVar 4) (aNil)))) (gS dSet (eVar 1) (eOp dIx (eVar 2) (eOp dSub (eVar 3) (eC (.int 1))))))))
    (sRet (eVar 1)))
noncomputable def f_words : AF := afOf 5 a_words
noncomputable def a_word_at : AS :=
  sSeq (sIf (tNt (tVal (eCall f_is_end (aCons (eVar 0) (aCons (eVar 1) (aNil))))))
    (sRaise0 "NoEnd")
    (sSkip))
    (sRet (eOp dIx (eCall f_words (aCons (eVar 0) (aNil))) (eVar 1)))
noncomputable def f_word_at : AF := afOf 2 a_word_at
noncomputable def a_asks : AS :=
  sSeq (sAsg (eCall f_words (aCons (eVar 0) (aNil))) (gN 1))
    (sSeq (sAsg (eCall mkLst (aNil)) (gN 2))
    (sSeq (sFor (iE (eCall f_rims (aCons (eVar 0) (aNil)))) (gN 3)
    (sSeq (sAsg (eCall bLen (aCons (eLc (iE (eVar 3)) (gN 5) (tVal (eOp dEq (eOp dIx (eVar 1) (eVar 5)) (eC (.str "fork")))) (eVar 5) [5]) (aNil))) (gN 4))
    (sIf (tVal (eOp dIn (eFld "Chart" "outer" (eVar 0)) (eVar 3)))
    (sExp (eMt isL mAppend (eVar 2) (aCons (eOp dAdd (eVar 4) (eC (.int 1))) (aNil))))
    (sExp (eMt isL mAppend (eVar 2) (aCons (eOp dSub (eVar 4) (eC (.int 1))) (aNil)))))))
    (sRet (eCall bTuple (aCons (eVar 2) (aNil))))))
noncomputable def f_asks : AF := afOf 6 a_asks
noncomputable def a_changes : AS :=
  sRet (eCall bLen (aCons (eLc (iA enm (aCons (eVar 0) (aNil))) (gT 2 (gsCons (gN 1) (gsCons (gN 2) (gsNil)))) (tVal (eOp dEq (eCall f_word_between (aCons (eOp dIx (eVar 0) (eOp dSub (eVar 1) (eC (.int 1)))) (aCons (eVar 2) (aNil)))) (eC (.str "straight")))) (eVar 1) [1, 2]) (aNil)))
noncomputable def f_changes : AF := afOf 3 a_changes
noncomputable def a_tips : AS :=
  sRet (eCall bTuple (aCons (eLc (iA enm (aCons (eFld "Chart" "rounds" (eVar 0)) (aNil))) (gT 2 (gsCons (gN 1) (gsCons (gN 2) (gsNil)))) (tVal (eOp dEq (eCall f_changes (aCons (eVar 2) (aNil))) (eC (.int 0)))) (eVar 1) [1, 2]) (aNil)))
noncomputable def f_tips : AF := afOf 3 a_tips
noncomputable def a_tangled : AS :=
  sSeq (sFor (iA enm (aCons (eFld "Chart" "rounds" (eVar 0)) (aNil))) (gT 2 (gsCons (gN 1) (gsCons (gN 2) (gsNil))))
    (sIf (tVal (eOp dGt (eCall f_changes (aCons (eVar 2) (aNil))) (eC (.int 2))))
    (sRet (eVar 1))
    (sSkip)))
    (sRet (eC .non))
noncomputable def f_tangled : AF := afOf 3 a_tangled
noncomputable def a_law_is_straight : AS :=
  sRet (eOp dNe (eOp dMod (eCall bInt (aCons (eVar 1) (aNil))) (eC (.int 2))) (eOp dMod (eCall bInt (aCons (eOp dIx (eVar 0) (eVar 1)) (aNil))) (eC (.int 2))))
noncomputable def f_law_is_straight : AF := afOf 2 a_law_is_straight
noncomputable def a_law_after : AS :=
  sSeq (sAsg (eCall (fun _ => mkDic []) aNil) (gN 1))
    (sSeq (sFor (iE (eVar 0)) (gN 2)
    (sFor (iA enm (aCons (eVar 2) (aNil))) (gT 2 (gsCons (gN 3) (gsCons (gN 4) (gsNil))))
    (sAsg (eVar 4) (gS dSet (eVar 1) (eOp dIx (eVar 2) (eOp dSub (eVar 3) (eC (.int 1))))))))
    (sRet (eVar 1)))
noncomputable def f_law_after : AF := afOf 5 a_law_after
noncomputable def a_law_other : AS :=
  sRet (eOp dSub (eOp dAdd (eVar 0) (eC (.int 1))) (eOp dMul (eC (.int 2)) (eOp dMod (eCall bInt (aCons (eVar 0) (aNil))) (eC (.int 2)))))
noncomputable def f_law_other : AF := afOf 1 a_law_other
noncomputable def a_law_rims : AS :=
  sSeq (sAsg (eCall (fun _ => mkDic []) aNil) (gN 1))
    (sSeq (sFor (iE (eVar 0)) (gN 2)
    (sFor (iA enm (aCons (eVar 2) (aNil))) (gT 2 (gsCons (gN 3) (gsCons (gN 4) (gsNil))))
    (sAsg (eOp dIx (eVar 2) (eOp dSub (eVar 3) (eC (.int 1)))) (gS dSet (eVar 1) (eVar 4)))))
    (sSeq (sAsg (eCall mkLst (aNil)) (gN 5))
    (sSeq (sAsg (eCall (fun _ => mkDic []) aNil) (gN 6))
    (sSeq (sFor (iE (eCall bSorted (aCons (eCall bList (aCons (eVar 1) (aNil))) (aNil)))) (gN 7)
    (sIf (tVal (eOp dNotIn (eVar 7) (eVar 6)))
    (sSeq (sAsg (eCall mkLst (aNil)) (gN 8))
    (sSeq (sAsg (eVar 7) (gN 9))
    (sSeq (sFor (iA rng1 (aCons (eCall bLen (aCons (eVar 1) (aNil))) (aNil))) (gN 10)
    (sIf (tVal (eOp dNotIn (eVar 9) (eVar 6)))
    (sSeq (sAsg (eC (.bl true)) (gS dSet (eVar 6) (eVar 9)))
    (sSeq (sExp (eMt isL mAppend (eVar 8) (aCons (eVar 9) (aNil))))
    (sAsg (eOp dIx (eVar 1) (eCall f_law_other (aCons (eVar 9) (aNil)))) (gN 9))))
    (sSkip)))
    (sExp (eMt isL mAppend (eVar 5) (aCons (eCall bTuple (aCons (eVar 8) (aNil))) (aNil)))))))
    (sSkip)))
    (sRet (eVar 5))))))
noncomputable def f_law_rims : AF := afOf 11 a_law_rims
noncomputable def a_law_rim_numbers : AS :=
  sSeq (sAsg (eCall (fun _ => mkDic []) aNil) (gN 1))
    (sSeq (sFor (iA enm (aCons (eCall f_law_rims (aCons (eVar 0) (aNil))) (aNil))) (gT 2 (gsCons (gN 2) (gsCons (gN 3) (gsNil))))
    (sFor (iE (eVar 3)) (gN 4)
    (sAsg (eVar 2) (gS dSet (eVar 1) (eVar 4)))))
    (sRet (eVar 1)))
noncomputable def f_law_rim_numbers : AF := afOf 5 a_law_rim_numbers
noncomputable def f_law_is_0 : AF := fun _ _ => .no
noncomputable def a_law_is_1 : AS :=
  sSeq (sIf (tVal (eIsi2 "tuple" "list" (eVar 1)))
    (sSeq (sIf (tOrr (tVal (eOp dNe (eIsi "tuple" (eVar 0)) (eIsi "tuple" (eVar 1)))) (tNt (tVal (eIsi2 "tuple" "list" (eVar 0)))))
    (sRet (eC (.bl false)))
    (sSkip))
    (sRet (eAnd (eOp dEq (eCall bLen (aCons (eVar 0) (aNil))) (eCall bLen (aCons (eVar 1) (aNil)))) (eCall (bAll true) (aCons (eLc (iA zpp (aCons (eVar 0) (aCons (eVar 1) (aNil)))) (gT 2 (gsCons (gN 2) (gsCons (gN 3) (gsNil)))) (tYesA) (eCall f_law_is_0 (aCons (eVar 2) (aCons (eVar 3) (aNil)))) [2, 3]) (aNil))))))
    (sSkip))
    (sRet (eAnd (eOp dEq (eIsi "bool" (eVar 0)) (eIsi "bool" (eVar 1))) (eOp dEq (eVar 0) (eVar 1))))
noncomputable def f_law_is_1 : AF := afOf 4 a_law_is_1
noncomputable def a_law_is_2 : AS :=
  sSeq (sIf (tVal (eIsi2 "tuple" "list" (eVar 1)))
    (sSeq (sIf (tOrr (tVal (eOp dNe (eIsi "tuple" (eVar 0)) (eIsi "tuple" (eVar 1)))) (tNt (tVal (eIsi2 "tuple" "list" (eVar 0)))))
    (sRet (eC (.bl false)))
    (sSkip))
    (sRet (eAnd (eOp dEq (eCall bLen (aCons (eVar 0) (aNil))) (eCall bLen (aCons (eVar 1) (aNil)))) (eCall (bAll true) (aCons (eLc (iA zpp (aCons (eVar 0) (aCons (eVar 1) (aNil)))) (gT 2 (gsCons (gN 2) (gsCons (gN 3) (gsNil)))) (tYesA) (eCall f_law_is_1 (aCons (eVar 2) (aCons (eVar 3) (aNil)))) [2, 3]) (aNil))))))
    (sSkip))
    (sRet (eAnd (eOp dEq (eIsi "bool" (eVar 0)) (eIsi "bool" (eVar 1))) (eOp dEq (eVar 0) (eVar 1))))
noncomputable def f_law_is_2 : AF := afOf 4 a_law_is_2
noncomputable def a_law_is_3 : AS :=
  sSeq (sIf (tVal (eIsi2 "tuple" "list" (eVar 1)))
    (sSeq (sIf (tOrr (tVal (eOp dNe (eIsi "tuple" (eVar 0)) (eIsi "tuple" (eVar 1)))) (tNt (tVal (eIsi2 "tuple" "list" (eVar 0)))))
    (sRet (eC (.bl false)))
    (sSkip))
    (sRet (eAnd (eOp dEq (eCall bLen (aCons (eVar 0) (aNil))) (eCall bLen (aCons (eVar 1) (aNil)))) (eCall (bAll true) (aCons (eLc (iA zpp (aCons (eVar 0) (aCons (eVar 1) (aNil)))) (gT 2 (gsCons (gN 2) (gsCons (gN 3) (gsNil)))) (tYesA) (eCall f_law_is_2 (aCons (eVar 2) (aCons (eVar 3) (aNil)))) [2, 3]) (aNil))))))
    (sSkip))
    (sRet (eAnd (eOp dEq (eIsi "bool" (eVar 0)) (eIsi "bool" (eVar 1))) (eOp dEq (eVar 0) (eVar 1))))
noncomputable def f_law_is_3 : AF := afOf 4 a_law_is_3
noncomputable def a_law_is_4 : AS :=
  sSeq (sIf (tVal (eIsi2 "tuple" "list" (eVar 1)))
    (sSeq (sIf (tOrr (tVal (eOp dNe (eIsi "tuple" (eVar 0)) (eIsi "tuple" (eVar 1)))) (tNt (tVal (eIsi2 "tuple" "list" (eVar 0)))))
    (sRet (eC (.bl false)))
    (sSkip))
    (sRet (eAnd (eOp dEq (eCall bLen (aCons (eVar 0) (aNil))) (eCall bLen (aCons (eVar 1) (aNil)))) (eCall (bAll true) (aCons (eLc (iA zpp (aCons (eVar 0) (aCons (eVar 1) (aNil)))) (gT 2 (gsCons (gN 2) (gsCons (gN 3) (gsNil)))) (tYesA) (eCall f_law_is_3 (aCons (eVar 2) (aCons (eVar 3) (aNil)))) [2, 3]) (aNil))))))
    (sSkip))
    (sRet (eAnd (eOp dEq (eIsi "bool" (eVar 0)) (eIsi "bool" (eVar 1))) (eOp dEq (eVar 0) (eVar 1))))
noncomputable def f_law_is_4 : AF := afOf 4 a_law_is_4
noncomputable def a_law_hand : AS :=
  sSeq (sAsg (eLc (iE (eSl (eVar 0) (oNone) (oSome (eC (.int 63))))) (gN 2) (tYesA) (eCall bAbs (aCons (eCall bInt (aCons (eVar 2) (aNil))) (aNil))) [2]) (gN 1))
    (sRet (eCall mkLst (aCons (eVar 1) (aCons (eC (.int 0)) (aCons (eC (.int 0)) (aCons (eOp dAdd (eC (.int 1)) (eCall bLen (aCons (eVar 1) (aNil)))) (aCons (eC (.int 0)) (aNil))))))))
noncomputable def f_law_hand : AF := afOf 3 a_law_hand
noncomputable def a_law_draw : AS :=
  sSeq (sIf (tAn (tVal (eOp dEq (eOp dIx (eVar 0) (eC (.int 2))) (eC (.int 0)))) (tVal (eOp dLt (eOp dIx (eVar 0) (eC (.int 1))) (eCall bLen (aCons (eOp dIx (eVar 0) (eC (.int 0))) (aNil))))))
    (sSeq (sAsg (eOp dIx (eOp dIx (eVar 0) (eC (.int 0))) (eOp dIx (eVar 0) (eC (.int 1)))) (gN 2))
    (sSeq (sAsg (eOp dAdd (eOp dIx (eVar 0) (eC (.int 1))) (eC (.int 1))) (gS dSet (eVar 0) (eC (.int 1))))
    (sSeq (sAsg (eOp dMod (eCall bInt (aCons (eOp dAdd (eOp dAdd (eOp dMul (eOp dIx (eVar 0) (eC (.int 3))) (eC (.int 69621))) (eVar 2)) (eC (.int 11))) (aNil))) (eC (.int 2147483629))) (gS dSet (eVar 0) (eC (.int 3))))
    (sIf (tVal (eOp dGe (eVar 2) (eOp dPow (eC (.int 10)) (eC (.int 18)))))
    (sAsg (eVar 2) (gS dSet (eVar 0) (eC (.int 2))))
    (sSkip)))))
    (sSkip))
    (sSeq (sIf (tVal (eOp dGt (eOp dIx (eVar 0) (eC (.int 2))) (eC (.int 0))))
    (sSeq (sAsg (eOp dMod (eCall bInt (aCons (eOp dIx (eVar 0) (eC (.int 2))) (aNil))) (eVar 1)) (gN 3))
    (sSeq (sAsg (eOp dFdiv (eOp dIx (eVar 0) (eC (.int 2))) (eVar 1)) (gS dSet (eVar 0) (eC (.int 2))))
    (sRet (eVar 3))))
    (sSkip))
    (sSeq (sAsg (eOp dAdd (eOp dIx (eVar 0) (eC (.int 4))) (eC (.int 1))) (gS dSet (eVar 0) (eC (.int 4))))
    (sSeq (sAsg (eOp dMod (eCall bInt (aCons (eOp dMul (eCall bInt (aCons (eOp dAdd (eOp dIx (eVar 0) (eC (.int 3))) (eOp dMul (eC (.int 7919)) (eOp dIx (eVar 0) (eC (.int 4))))) (aNil))) (eC (.int 48271))) (aNil))) (eC (.int 2147483647))) (gN 4))
    (sSeq (sAsg (eOp dMod (eCall bInt (aCons (eOp dMul (eVar 4) (eOp dAdd (eOp dFdiv (eVar 4) (eC (.int 1009))) (eC (.int 69621)))) (aNil))) (eC (.int 2147483647))) (gN 4))
    (sSeq (sAsg (eOp dMod (eCall bInt (aCons (eOp dMul (eVar 4) (eOp dAdd (eOp dFdiv (eVar 4) (eC (.int 2003))) (eC (.int 40692)))) (aNil))) (eC (.int 2147483399))) (gN 4))
    (sRet (eOp dMod (eCall bInt (aCons (eOp dFdiv (eVar 4) (eC (.int 16))) (aNil))) (eVar 1))))))))
noncomputable def f_law_draw : AF := afOf 5 a_law_draw
noncomputable def a_law_put_behind : AS :=
  sSeq (sAsg (eMt isL mIndex (eVar 0) (aCons (eVar 1) (aNil))) (gN 3))
    (sRet (eOp dAdd (eOp dAdd (eSl (eVar 0) (oNone) (oSome (eOp dAdd (eVar 3) (eC (.int 1))))) (eCall mkLst (aCons (eVar 2) (aNil)))) (eSl (eVar 0) (oSome (eOp dAdd (eVar 3) (eC (.int 1)))) (oNone))))
noncomputable def f_law_put_behind : AF := afOf 4 a_law_put_behind
noncomputable def a_law_straights : AS :=
  sRet (eCall bLen (aCons (eLc (iA rng1 (aCons (eCall bLen (aCons (eVar 0) (aNil))) (aNil))) (gN 1) (tVal (eOp dNe (eOp dMod (eCall bInt (aCons (eOp dIx (eVar 0) (eVar 1)) (aNil))) (eC (.int 2))) (eOp dMod (eCall bInt (aCons (eOp dIx (eVar 0) (eOp dSub (eVar 1) (eC (.int 1)))) (aNil))) (eC (.int 2))))) (eVar 1) [1]) (aNil)))
noncomputable def f_law_straights : AF := afOf 2 a_law_straights
noncomputable def a_law_hung : AS :=
  sSeq (sAsg (eCall f_law_draw (aCons (eVar 0) (aCons (eOp dMul (eC (.int 2)) (eCall bLen (aCons (eVar 1) (aNil)))) (aNil)))) (gN 4))
    (sSeq (sAsg (eOp dIx (eOp dIx (eVar 1) (eOp dFdiv (eVar 4) (eC (.int 2)))) (eOp dMod (eCall bInt (aCons (eVar 4) (aNil))) (eC (.int 2)))) (gN 5))
    (sSeq (sAsg (eOp dAdd (eOp dMul (eC (.int 2)) (eCall bLen (aCons (eVar 1) (aNil)))) (eCall f_law_draw (aCons (eVar 0) (aCons (eC (.int 2)) (aNil))))) (gN 6))
    (sSeq (sFor (iE (eCall mkTup (aCons (eVar 6) (aCons (eCall f_law_other (aCons (eVar 6) (aNil))) (aNil))))) (gN 7)
    (sSeq (sAsg (eCall f_law_put_behind (aCons (eOp dIx (eVar 2) (eVar 5)) (aCons (eVar 4) (aCons (eVar 7) (aNil))))) (gN 8))
    (sIf (tOrr (tVal (eVar 3)) (tVal (eOp dLt (eCall f_law_straights (aCons (eVar 8) (aNil))) (eC (.int 3)))))
    (sSeq (sAsg (eIf (tVal (eOp dEq (eOp dMod (eCall bInt (aCons (eVar 7) (aNil))) (eC (.int 2))) (eC (.int 0)))) (eCall mkTup (aCons (eVar 5) (aCons (eCall bLen (aCons (eVar 2) (aNil))) (aNil)))) (eCall mkTup (aCons (eCall bLen (aCons (eVar 2) (aNil))) (aCons (eVar 5) (aNil))))) (gN 9))
    (sSeq (sAsg (eOp dAdd (eOp dAdd (eOp dAdd (eSl (eVar 2) (oNone) (oSome (eVar 5))) (eCall mkLst (aCons (eVar 8) (aNil)))) (eSl (eVar 2) (oSome (eOp dAdd (eVar 5) (eC (.int 1)))) (oNone))) (eCall mkLst (aCons (eCall mkLst (aCons (eCall f_law_other (aCons (eVar 7) (aNil))) (aNil))) (aNil)))) (gN 10))
    (sRet (eCall mkTup (aCons (eOp dAdd (eVar 1) (eCall mkLst (aCons (eVar 9) (aNil)))) (aCons (eVar 10) (aNil)))))))
    (sSkip))))
    (sRet (eCall mkTup (aCons (eVar 1) (aCons (eVar 2) (aNil))))))))
noncomputable def f_law_hung : AF := afOf 11 a_law_hung
noncomputable def a_law_tied : AS :=
  sSeq (sAsg (eCall f_law_rims (aCons (eVar 2) (aNil))) (gN 4))
    (sSeq (sAsg (eOp dIx (eVar 4) (eCall f_law_draw (aCons (eVar 0) (aCons (eCall bLen (aCons (eVar 4) (aNil))) (aNil))))) (gN 5))
    (sSeq (sPar2 6 7 (aCons (eOp dIx (eVar 5) (eCall f_law_draw (aCons (eVar 0) (aCons (eCall bLen (aCons (eVar 5) (aNil))) (aNil))))) (aCons (eOp dIx (eVar 5) (eCall f_law_draw (aCons (eVar 0) (aCons (eCall bLen (aCons (eVar 5) (aNil))) (aNil))))) (aNil))))
    (sSeq (sAsg (eOp dMul (eC (.int 2)) (eCall bLen (aCons (eVar 1) (aNil)))) (gN 8))
    (sSeq (sFor (iE (eCall mkTup (aCons (eCall mkTup (aCons (eVar 6) (aCons (eVar 7) (aNil)))) (aCons (eCall mkTup (aCons (eVar 7) (aCons (eVar 6) (aNil)))) (aNil))))) (gT 2 (gsCons (gN 9) (gsCons (gN 10) (gsNil))))
    (sSeq (sPar2 11 12 (aCons (eOp dIx (eOp dIx (eVar 1) (eOp dFdiv (eVar 9) (eC (.int 2)))) (eOp dMod (eCall bInt (aCons (eVar 9) (aNil))) (eC (.int 2)))) (aCons (eOp dIx (eOp dIx (eVar 1) (eOp dFdiv (eVar 10) (eC (.int 2)))) (eOp dMod (eCall bInt (aCons (eVar 10) (aNil))) (eC (.int 2)))) (aNil))))
    (sSeq (sAsg (eCall bList (aCons (eVar 2) (aNil))) (gN 13))
    (sSeq (sIf (tVal (eOp dEq (eVar 9) (eVar 10)))
    (sAsg (eCall f_law_put_behind (aCons (eCall f_law_put_behind (aCons (eOp dIx (eVar 13) (eVar 11)) (aCons (eVar 9) (aCons (eOp dAdd (eVar 8) (eC (.int 1))) (aNil))))) (aCons (eVar 9) (aCons (eVar 8) (aNil))))) (gS dSet (eVar 13) (eVar 11)))
    (sSeq (sAsg (eCall f_law_put_behind (aCons (eOp dIx (eVar 13) (eVar 11)) (aCons (eVar 9) (aCons (eVar 8) (aNil))))) (gS dSet (eVar 13) (eVar 11)))
    (sAsg (eCall f_law_put_behind (aCons (eOp dIx (eVar 13) (eVar 12)) (aCons (eVar 10) (aCons (eOp dAdd (eVar 8) (eC (.int 1))) (aNil))))) (gS dSet (eVar 13) (eVar 12)))))
    (sIf (tOrr (tVal (eVar 3)) (tAn (tVal (eOp dLt (eCall f_law_straights (aCons (eOp dIx (eVar 13) (eVar 11)) (aNil))) (eC (.int 3)))) (tVal (eOp dLt (eCall f_law_straights (aCons (eOp dIx (eVar 13) (eVar 12)) (aNil))) (eC (.int 3))))))
    (sRet (eCall mkTup (aCons (eOp dAdd (eVar 1) (eCall mkLst (aCons (eCall mkTup (aCons (eVar 11) (aCons (eVar 12) (aNil)))) (aNil)))) (aCons (eVar 13) (aNil)))))
    (sSkip))))))
    (sRet (eCall mkTup (aCons (eVar 1) (aCons (eVar 2) (aNil)))))))))
noncomputable def f_law_tied : AF := afOf 14 a_law_tied
noncomputable def dp_law_chart (z : Str) : Option (Nat × AF) := if z = "_law_hung" then some (4, f_law_hung) else if z = "_law_tied" then some (4, f_law_tied) else none
noncomputable def a_law_chart : AS :=
  sSeq (sAsg (eOp dIx (eCall mkLst (aCons (eCall mkTup (aCons (eCall mkLst (aCons (eCall mkTup (aCons (eC (.int 0)) (aCons (eC (.int 1)) (aNil)))) (aNil))) (aCons (eCall mkLst (aCons (eCall mkLst (aCons (eC (.int 0)) (aNil))) (aCons (eCall mkLst (aCons (eC (.int 1)) (aNil))) (aNil)))) (aNil)))) (aCons (eCall mkTup (aCons (eCall mkLst (aCons (eCall mkTup (aCons (eC (.int 1)) (aCons (eC (.int 0)) (aNil)))) (aNil))) (aCons (eCall mkLst (aCons (eCall mkLst (aCons (eC (.int 1)) (aNil))) (aCons (eCall mkLst (aCons (eC (.int 0)) (aNil))) (aNil)))) (aNil)))) (aCons (eCall mkTup (aCons (eCall mkLst (aCons (eCall mkTup (aCons (eC (.int 0)) (aCons (eC (.int 0)) (aNil)))) (aNil))) (aCons (eCall mkLst (aCons (eCall mkLst (aCons (eC (.int 0)) (aCons (eC (.int 1)) (aNil)))) (aNil))) (aNil)))) (aNil))))) (eCall f_law_draw (aCons (eVar 0) (aCons (eC (.int 3)) (aNil))))) (gT 2 (gsCons (gN 3) (gsCons (gN 4) (gsNil)))))
    (sSeq (sFor (iA rng1 (aCons (eCall f_law_draw (aCons (eVar 0) (aCons (eVar 1) (aNil)))) (aNil))) (gN 5)
    (sSeq (sAsg (eOp dIx (eCall mkLst (aCons (eC (.fn "_law_hung")) (aCons (eC (.fn "_law_tied")) (aCons (eC (.fn "_law_tied")) (aNil))))) (eCall f_law_draw (aCons (eVar 0) (aCons (eC (.int 3)) (aNil))))) (gN 6))
    (sAsg (eCallV dp_law_chart (eVar 6) (aCons (eVar 0) (aCons (eVar 3) (aCons (eVar 4) (aCons (eVar 2) (aNil)))))) (gT 2 (gsCons (gN 3) (gsCons (gN 4) (gsNil)))))))
    (sSeq (sAsg (eCall f_law_draw (aCons (eVar 0) (aCons (eC (.int 4)) (aNil)))) (gN 7))
    (sSeq (sAsg (eCall mkLst (aNil)) (gN 8))
    (sSeq (sFor (iE (eVar 3)) (gN 9)
    (sSeq (sAsg (eOp dIx (eCall mkLst (aCons (eC (.int 1)) (aCons (eOp dAdd (eC (.int 1)) (eCall f_law_draw (aCons (eVar 0) (aCons (eC (.int 5)) (aNil))))) (aCons (eOp dAdd (eC (.int 1)) (eCall f_law_draw (aCons (eVar 0) (aCons (eC (.int 1000)) (aNil))))) (aCons (eOp dAdd (eC (.int 1)) (eCall f_law_draw (aCons (eVar 0) (aCons (eC (.int 2)) (aNil))))) (aNil)))))) (eVar 7)) (gN 10))
    (sExp (eMt isL mAppend (eVar 8) (aCons (eIf (tVal (eOp dEq (eCall f_law_draw (aCons (eVar 0) (aCons (eC (.int 9)) (aNil)))) (eC (.int 0)))) (eC .non) (eVar 10)) (aNil))))))
    (sSeq (sAsg (eCall f_law_draw (aCons (eVar 0) (aCons (eOp dMul (eC (.int 2)) (eCall bLen (aCons (eVar 3) (aNil)))) (aNil)))) (gN 11))
    (sRet (eCall mkTup (aCons (eCall bLen (aCons (eVar 4) (aNil))) (aCons (eCall bTuple (aCons (eVar 3) (aNil))) (aCons (eCall bTuple (aCons (eLc (iE (eVar 4)) (gN 12) (tYesA) (eCall bTuple (aCons (eVar 12) (aNil))) [12]) (aNil))) (aCons (eVar 11) (aCons (eCall bTuple (aCons (eVar 8) (aNil))) (aNil)))))))))))))
noncomputable def f_law_chart : AF := afOf 13 a_law_chart
noncomputable def a_law_made_chart : AS :=
  sRet (eMk "Chart" f_Chart_init (aCons (eOp dIx (eVar 0) (eC (.int 0))) (aCons (eOp dIx (eVar 0) (eC (.int 1))) (aCons (eOp dIx (eVar 0) (eC (.int 2))) (aCons (eOp dIx (eVar 0) (eC (.int 3))) (aCons (eOp dIx (eVar 0) (eC (.int 4))) (aNil)))))))
noncomputable def f_law_made_chart : AF := afOf 1 a_law_made_chart
noncomputable def a_law_tips : AS :=
  sRet (eLc (iA enm (aCons (eVar 0) (aNil))) (gT 2 (gsCons (gN 1) (gsCons (gN 2) (gsNil)))) (tVal (eOp dEq (eSetLen (eLc (iE (eVar 2)) (gN 3) (tYesA) (eOp dMod (eCall bInt (aCons (eVar 3) (aNil))) (eC (.int 2))) [3])) (eC (.int 1)))) (eVar 1) [1, 2])
noncomputable def f_law_tips : AF := afOf 4 a_law_tips
noncomputable def a_law_asks : AS :=
  sSeq (sAsg (eCall f_law_after (aCons (eOp dIx (eVar 0) (eC (.int 2))) (aNil))) (gN 2))
    (sSeq (sAsg (eCall mkLst (aNil)) (gN 3))
    (sSeq (sFor (iE (eCall f_law_rims (aCons (eOp dIx (eVar 0) (eC (.int 2))) (aNil)))) (gN 4)
    (sSeq (sAsg (eCall bLen (aCons (eLc (iE (eVar 4)) (gN 6) (tAn (tVal (eOp dEq (eOp dMod (eCall bInt (aCons (eVar 6) (aNil))) (eC (.int 2))) (eC (.int 0)))) (tVal (eOp dEq (eOp dMod (eCall bInt (aCons (eOp dIx (eVar 2) (eVar 6)) (aNil))) (eC (.int 2))) (eC (.int 0))))) (eVar 6) [6]) (aNil))) (gN 5))
    (sExp (eMt isL mAppend (eVar 3) (aCons (eIf (tVal (eOp dIn (eVar 1) (eVar 4))) (eOp dAdd (eVar 5) (eC (.int 1))) (eOp dSub (eVar 5) (eC (.int 1)))) (aNil))))))
    (sRet (eVar 3))))
noncomputable def f_law_asks : AF := afOf 7 a_law_asks
noncomputable def a_law_tangled : AS :=
  sSeq (sAsg (eLc (iA enm (aCons (eVar 0) (aNil))) (gT 2 (gsCons (gN 2) (gsCons (gN 3) (gsNil)))) (tVal (eOp dGt (eCall f_law_straights (aCons (eVar 3) (aNil))) (eC (.int 2)))) (eVar 2) [2, 3]) (gN 1))
    (sRet (eIf (tVal (eOp dGt (eCall bLen (aCons (eVar 1) (aNil))) (eC (.int 0)))) (eOp dIx (eVar 1) (eC (.int 0))) (eC .non)))
noncomputable def f_law_tangled : AF := afOf 4 a_law_tangled
noncomputable def a_law_word : AS :=
  sSeq (sIf (tVal (eCall f_law_is_straight (aCons (eVar 0) (aCons (eVar 1) (aNil)))))
    (sRet (eC (.str "straight")))
    (sSkip))
    (sRet (eOp dIx (eCall mkLst (aCons (eC (.str "fork")) (aCons (eC (.str "meet")) (aNil)))) (eOp dMod (eCall bInt (aCons (eVar 1) (aNil))) (eC (.int 2)))))
noncomputable def f_law_word : AF := afOf 2 a_law_word
noncomputable def a_law_angles_right : AS :=
  sSeq (sAsg (eCall f_law_after (aCons (eOp dIx (eVar 0) (eC (.int 2))) (aNil))) (gN 3))
    (sSeq (sAsg (eCall f_law_rim_numbers (aCons (eOp dIx (eVar 0) (eC (.int 2))) (aNil))) (gN 4))
    (sSeq (sFor (iA rng1 (aCons (eOp dMul (eC (.int 2)) (eCall bLen (aCons (eOp dIx (eVar 0) (eC (.int 1))) (aNil)))) (aNil))) (gN 5)
    (sIf (tNt (tVal (eCall f_law_is_4 (aCons (eCall mkLst (aCons (eCall f_rim_of (aCons (eVar 1) (aCons (eVar 5) (aNil)))) (aCons (eCall f_word_at (aCons (eVar 1) (aCons (eVar 5) (aNil)))) (aNil)))) (aCons (eCall mkLst (aCons (eOp dIx (eVar 4) (eVar 5)) (aCons (eCall f_law_word (aCons (eVar 3) (aCons (eVar 5) (aNil)))) (aNil)))) (aNil))))))
    (sRet (eC (.bl false)))
    (sSkip)))
    (sSeq (sFor (iA rng1 (aCons (eCall bLen (aCons (eOp dIx (eVar 0) (eC (.int 1))) (aNil))) (aNil))) (gN 6)
    (sIf (tNt (tVal (eCall f_law_is_4 (aCons (eCall f_sides (aCons (eVar 1) (aCons (eVar 6) (aNil)))) (aCons (eCall mkTup (aCons (eOp dIx (eVar 4) (eOp dAdd (eOp dMul (eC (.int 2)) (eVar 6)) (eC (.int 1)))) (aCons (eOp dIx (eVar 4) (eOp dMul (eC (.int 2)) (eVar 6))) (aNil)))) (aNil))))))
    (sRet (eC (.bl false)))
    (sSkip)))
    (sSeq (sFor (iE (eVar 2)) (gN 7)
    (sSeq (sAsg (eLc (iE (eVar 7)) (gN 5) (tYesA) (eCall f_word_at (aCons (eVar 1) (aCons (eVar 5) (aNil)))) [5]) (gN 8))
    (sIf (tVal (eOp dNe (eMt isL mCount (eVar 8) (aCons (eC (.str "fork")) (aNil))) (eMt isL mCount (eVar 8) (aCons (eC (.str "meet")) (aNil)))))
    (sRet (eC (.bl false)))
    (sSkip))))
    (sRet (eC (.bl true)))))))
noncomputable def f_law_angles_right : AF := afOf 9 a_law_angles_right
noncomputable def a_law : AS :=
  sSeq (sAsg (eCall f_law_hand (aCons (eVar 0) (aNil))) (gN 1))
    (sSeq (sFor (iA rng1 (aCons (eC (.int 3)) (aNil))) (gN 2)
    (sSeq (sAsg (eCall f_law_chart (aCons (eVar 1) (aCons (eIf (tVal (eOp dEq (eCall f_law_draw (aCons (eVar 1) (aCons (eC (.int 5)) (aNil)))) (eC (.int 0)))) (eC (.int 39)) (eC (.int 10))) (aCons (eOp dEq (eCall f_law_draw (aCons (eVar 1) (aCons (eC (.int 3)) (aNil)))) (eC (.int 0))) (aNil))))) (gN 3))
    (sSeq (sAsg (eCall f_law_made_chart (aCons (eVar 3) (aNil))) (gN 4))
    (sSeq (sAsg (eCall f_law_rims (aCons (eOp dIx (eVar 3) (eC (.int 2))) (aNil))) (gN 5))
    (sSeq (sAsg (eCall f_rims (aCons (eVar 4) (aNil))) (gN 6))
    (sSeq (sIf (tOrr (tNt (tVal (eCall f_law_is_4 (aCons (eVar 6) (aCons (eVar 5) (aNil)))))) (tVal (eOp dNe (eOp dAdd (eOp dIx (eVar 3) (eC (.int 0))) (eCall bLen (aCons (eVar 5) (aNil)))) (eOp dAdd (eCall bLen (aCons (eOp dIx (eVar 3) (eC (.int 1))) (aNil))) (eC (.int 2))))))
    (sRet (eC (.bl false)))
    (sSkip))
    (sSeq (sExp (eMt isL mAppend (eVar 6) (aCons (eCall mkTup (aNil)) (aNil))))
    (sSeq (sIf (tOrr (tNt (tVal (eCall f_law_is_4 (aCons (eCall f_rims (aCons (eVar 4) (aNil))) (aCons (eVar 5) (aNil)))))) (tNt (tVal (eCall f_law_angles_right (aCons (eVar 3) (aCons (eVar 4) (aCons (eVar 5) (aNil))))))))
    (sRet (eC (.bl false)))
    (sSkip))
    (sSeq (sAsg (eCall bTuple (aCons (eCall f_law_tips (aCons (eOp dIx (eVar 3) (eC (.int 2))) (aNil))) (aNil))) (gN 7))
    (sSeq (sAsg (eCall bTuple (aCons (eCall f_law_asks (aCons (eVar 3) (aCons (eOp dIx (eVar 3) (eC (.int 3))) (aNil)))) (aNil))) (gN 8))
    (sSeq (sAsg (eCall f_law_tangled (aCons (eOp dIx (eVar 3) (eC (.int 2))) (aNil))) (gN 9))
    (sSeq (sIf (tNt (tVal (eCall f_law_is_4 (aCons (eCall mkLst (aCons (eCall f_asks (aCons (eVar 4) (aNil))) (aCons (eCall f_tips (aCons (eVar 4) (aNil))) (aCons (eCall f_tangled (aCons (eVar 4) (aNil))) (aNil))))) (aCons (eCall mkLst (aCons (eVar 8) (aCons (eVar 7) (aCons (eVar 9) (aNil))))) (aNil))))))
    (sRet (eC (.bl false)))
    (sSkip))
    (sIf (tAn (tVal (eOp dIsN (eVar 9) (eC .non))) (tVal (eOp dNe (eCall bSumB (aCons (eVar 8) (aNil))) (eCall bLen (aCons (eVar 7) (aNil))))))
    (sRet (eC (.bl false)))
    (sSkip))))))))))))))
    (sRet (eC (.bl true))))
noncomputable def f_law : AF := afOf 10 a_law
section
variable {P : Program} {w : World} {K : PySem.W.Frag} {mg : Str → Option Value} {base : Heap} {g : Glb}
abbrev s_is_whole : Stmt := topS 6
theorem sc_is_whole : FnScope ["thing"] ["thing"] (defScope s_is_whole) := ⟨rfl, rfl, rfl, by decide +kernel, rfl, by decide +kernel, by decide +kernel⟩
theorem ok_is_whole {f : Addr} {fd : FuncData} (T : Txt P w K mg base g)  (F : Fun K "is_whole" "is_whole" s_is_whole f fd) : FnOk P w K mg base (L2.CX P w) 1 f fd ["thing"] (spOf K g 1 f_is_whole) :=
  fn_okA F sc_is_whole rfl fun cdv A outer s H E hr => by
  have hc : CxA (cxOf (L2.CX P w) P w K mg base ["thing"] "is_whole" (defScope s_is_whole) f cdv A outer s H E) 0 := ⟨rfl, sc_is_whole.nd, passes_of rfl, hr⟩
  have hu1 := hu_of hr
  have hu65 := hu65_of hr
  exact sss_one (ss_ret (se_and (se_isi T.b_isinstance T.b_int bb_int (se_var 0)) (se_one (se_not (se_isi T.b_isinstance T.b_bool bb_bool (se_var 0))))))
abbrev s_is_between : Stmt := topS 7
theorem sc_is_between : FnScope ["thing", "low", "high"] ["thing", "low", "high"] (defScope s_is_between) := ⟨rfl, rfl, rfl, by decide +kernel, rfl, by decide +kernel, by decide +kernel⟩
theorem ok_is_between {f : Addr} {fd : FuncData} (T : Txt P w K mg base g) (h_is_whole : FnA P w K mg base g 1 "is_whole" 1 f_is_whole) (F : Fun K "is_between" "is_between" s_is_between f fd) : FnOk P w K mg base (L2.CX P w) 2 f fd ["thing", "low", "high"] (spOf K g 3 f_is_between) :=
  fn_okA F sc_is_between rfl fun cdv A outer s H E hr => by
  have hc : CxA (cxOf (L2.CX P w) P w K mg base ["thing", "low", "high"] "is_between" (defScope s_is_between) f cdv A outer s H E) 1 := ⟨rfl, sc_is_between.nd, passes_of rfl, hr⟩
  have hu1 := hu_of hr
  have hu65 := hu65_of hr
  exact sss_one (ss_ret (se_and (se_call h_is_whole (hc.hr.mono (by decide)) rfl (sa_cons (se_var 0) (sa_nil)) (al_cons al_nil)) (se_one (se_chain opA_le opA_le (se_var 1) (se_var 0) (se_var 2)))))
abbrev s_is_row : Stmt := topS 8
theorem sc_is_row : FnScope ["thing", "many"] ["thing", "many"] (defScope s_is_row) := ⟨rfl, rfl, rfl, by decide +kernel, rfl, by decide +kernel, by decide +kernel⟩
theorem ok_is_row {f : Addr} {fd : FuncData} (T : Txt P w K mg base g)  (F : Fun K "is_row" "is_row" s_is_row f fd) : FnOk P w K mg base (L2.CX P w) 1 f fd ["thing", "many"] (spOf K g 2 f_is_row) :=
  fn_okA F sc_is_row rfl fun cdv A outer s H E hr => by
  have hc : CxA (cxOf (L2.CX P w) P w K mg base ["thing", "many"] "is_row" (defScope s_is_row) f cdv A outer s H E) 0 := ⟨rfl, sc_is_row.nd, passes_of rfl, hr⟩
  have hu1 := hu_of hr
  have hu65 := hu65_of hr
  exact sss_one (ss_ret (se_and (se_isi T.b_isinstance T.b_tuple bb_tuple (se_var 0)) (se_one (se_cmp (opA_eq hc.hr.units) (se_cb ca_len T.b_len bb_len (sa_cons (se_var 0) (sa_nil))) (se_var 1)))))
abbrev s_are_whole : Stmt := topS 9
theorem sc_are_whole : FnScope ["things", "thing"] ["things"] (defScope s_are_whole) := ⟨rfl, rfl, rfl, by decide +kernel, rfl, by decide +kernel, by decide +kernel⟩
theorem ok_are_whole {f : Addr} {fd : FuncData} (T : Txt P w K mg base g) (h_is_whole : FnA P w K mg base g 1 "is_whole" 1 f_is_whole) (F : Fun K "are_whole" "are_whole" s_are_whole f fd) : FnOk P w K mg base (L2.CX P w) 2 f fd ["things"] (spOf K g 1 f_are_whole) :=
  fn_okA F sc_are_whole rfl fun cdv A outer s H E hr => by
  have hc : CxA (cxOf (L2.CX P w) P w K mg base ["things", "thing"] "are_whole" (defScope s_are_whole) f cdv A outer s H E) 1 := ⟨rfl, sc_are_whole.nd, passes_of rfl, hr⟩
  have hu1 := hu_of hr
  have hu65 := hu65_of hr
  exact sss_one (ss_ret (se_cb (ca_all hc.calm) T.b_all bb_all (sa_cons (se_lc (own := [("thing", 1)]) hc.calm hc.nd (si_e (se_var 0)) (blkOk_by (N := ["things", "thing"]) (sc := defScope s_are_whole) (by decide +kernel)) rfl (fun _ _ _ _ _ => sg_name 1 hc.nd) (fun _ _ _ _ _ => sts_nil) (fun _ _ _ _ _ => se_call h_is_whole (hc.hr.mono (by decide)) rfl (sa_cons (se_var 1) (sa_nil)) (al_cons al_nil))) (sa_nil))))
abbrev s_begun_least : Stmt := topS 21
theorem sc_begun_least : FnScope ["row", "at"] ["row"] (defScope s_begun_least) := ⟨rfl, rfl, rfl, by decide +kernel, rfl, by decide +kernel, by decide +kernel⟩
theorem ok_begun_least {f : Addr} {fd : FuncData} (T : Txt P w K mg base g)  (F : Fun K "begun_least" "begun_least" s_begun_least f fd) : FnOk P w K mg base (L2.CX P w) 1 f fd ["row"] (spOf K g 1 f_begun_least) :=
  fn_okA F sc_begun_least rfl fun cdv A outer s H E hr => by
  have hc : CxA (cxOf (L2.CX P w) P w K mg base ["row", "at"] "begun_least" (defScope s_begun_least) f cdv A outer s H E) 0 := ⟨rfl, sc_begun_least.nd, passes_of rfl, hr⟩
  have hu1 := hu_of hr
  have hu65 := hu65_of hr
  exact sss_cons (ss_asg (ws := [1]) (se_tm PySem.F.plainAttrs_tuple PySem.F.slot_tuple_index PySem.F.type_tuple_index ma_tindex (se_var 0) (sa_cons (se_cb (ca_min hc.calm hc.hr.units) T.b_min bb_min (sa_cons (se_var 0) (sa_nil))) (sa_nil))) (sg_name 1 hc.nd))
      (sss_one (ss_ret (se_bin opA_add (se_sl (se_var 0) (so_some (se_var 1)) (so_none)) (se_sl (se_var 0) (so_none) (so_some (se_var 1))))))
abbrev s_least_beside : Stmt := topS 25
theorem sc_least_beside : FnScope ["found", "angle", "rim"] ["found", "angle"] (defScope s_least_beside) := ⟨rfl, rfl, rfl, by decide +kernel, rfl, by decide +kernel, by decide +kernel⟩
theorem ok_least_beside {f : Addr} {fd : FuncData} (T : Txt P w K mg base g)  (F : Fun K "least_beside" "least_beside" s_least_beside f fd) : FnOk P w K mg base (L2.CX P w) 1 f fd ["found", "angle"] (spOf K g 2 f_least_beside) :=
  fn_okA F sc_least_beside rfl fun cdv A outer s H E hr => by
  have hc : CxA (cxOf (L2.CX P w) P w K mg base ["found", "angle", "rim"] "least_beside" (defScope s_least_beside) f cdv A outer s H E) 0 := ⟨rfl, sc_least_beside.nd, passes_of rfl, hr⟩
  have hu1 := hu_of hr
  have hu65 := hu65_of hr
  exact sss_one (ss_ret (se_ix (ixA hu1) (se_lc (own := [("rim", 2)]) hc.calm hc.nd (si_e (se_var 0)) (blkOk_by (N := ["found", "angle", "rim"]) (sc := defScope s_least_beside) (by decide +kernel)) rfl (fun _ _ _ _ _ => sg_name 2 hc.nd) (fun _ _ _ _ _ => sts_one (st_cmp (opA_in hu65) (se_var 1) (se_var 2))) (fun _ _ _ _ _ => se_ix (ixA hu1) (se_var 2) (se_int))) (se_int)))
abbrev s_other_end : Stmt := topS 24
theorem sc_other_end : FnScope ["end"] ["end"] (defScope s_other_end) := ⟨rfl, rfl, rfl, by decide +kernel, rfl, by decide +kernel, by decide +kernel⟩
theorem ok_other_end {f : Addr} {fd : FuncData} (T : Txt P w K mg base g)  (F : Fun K "other_end" "other_end" s_other_end f fd) : FnOk P w K mg base (L2.CX P w) 1 f fd ["end"] (spOf K g 1 f_other_end) :=
  fn_okA F sc_other_end rfl fun cdv A outer s H E hr => by
  have hc : CxA (cxOf (L2.CX P w) P w K mg base ["end"] "other_end" (defScope s_other_end) f cdv A outer s H E) 0 := ⟨rfl, sc_other_end.nd, passes_of rfl, hr⟩
  have hu1 := hu_of hr
  have hu65 := hu65_of hr
  exact sss_one (ss_ret (se_bin opA_xor (se_var 0) (se_int)))
abbrev s_rim_from : Stmt := topS 23
theorem sc_rim_from : FnScope ["before", "least", "rim", "angle"] ["before", "least"] (defScope s_rim_from) := ⟨rfl, rfl, rfl, by decide +kernel, rfl, by decide +kernel, by decide +kernel⟩
theorem ok_rim_from {f : Addr} {fd : FuncData} (T : Txt P w K mg base g) (h_other_end : FnA P w K mg base g 1 "other_end" 1 f_other_end) (F : Fun K "rim_from" "rim_from" s_rim_from f fd) : FnOk P w K mg base (L2.CX P w) 2 f fd ["before", "least"] (spOf K g 2 f_rim_from) :=
  fn_okA F sc_rim_from rfl fun cdv A outer s H E hr => by
  have hc : CxA (cxOf (L2.CX P w) P w K mg base ["before", "least", "rim", "angle"] "rim_from" (defScope s_rim_from) f cdv A outer s H E) 1 := ⟨rfl, sc_rim_from.nd, passes_of rfl, hr⟩
  have hu1 := hu_of hr
  have hu65 := hu65_of hr
  exact sss_cons (ss_asg (ws := [2]) (se_lst (sa_cons (se_var 1) (sa_nil))) (sg_name 2 hc.nd))
      (sss_cons (ss_asg (ws := [3]) (se_ix (ixA hu1) (se_var 0) (se_call h_other_end (hc.hr.mono (by decide)) rfl (sa_cons (se_var 1) (sa_nil)) (al_cons al_nil))) (sg_name 3 hc.nd))
      (sss_cons (ss_while hc.own (st_cmp (opA_ne hc.hr.units) (se_var 3) (se_var 1))
      (sss_cons (ss_exp (se_bm PySem.F.plainAttrs_list PySem.F.slot_list_append PySem.F.type_list_append ma_append (fun _ _ _ _ _ => isL_ty) (se_var 2) (sa_cons (se_var 3) (sa_nil))))
      (sss_one (ss_asg (ws := [3]) (se_ix (ixA hu1) (se_var 0) (se_call h_other_end (hc.hr.mono (by decide)) rfl (sa_cons (se_var 3) (sa_nil)) (al_cons al_nil))) (sg_name 3 hc.nd)))))
      (sss_one (ss_ret (se_ct ca_tuple T.b_tuple bb_tuple (sa_cons (se_var 2) (sa_nil)))))))
abbrev s_rims_between : Stmt := topS 22
theorem sc_rims_between : FnScope ["rounds", "before", "row", "at", "end", "found", "walked", "least", "rim", "angle"] ["rounds"] (defScope s_rims_between) := ⟨rfl, rfl, rfl, by decide +kernel, rfl, by decide +kernel, by decide +kernel⟩
theorem ok_rims_between {f : Addr} {fd : FuncData} (T : Txt P w K mg base g) (h_rim_from : FnA P w K mg base g 2 "rim_from" 2 f_rim_from) (F : Fun K "rims_between" "rims_between" s_rims_between f fd) : FnOk P w K mg base (L2.CX P w) 3 f fd ["rounds"] (spOf K g 1 f_rims_between) :=
  fn_okA F sc_rims_between rfl fun cdv A outer s H E hr => by
  have hc : CxA (cxOf (L2.CX P w) P w K mg base ["rounds", "before", "row", "at", "end", "found", "walked", "least", "rim", "angle"] "rims_between" (defScope s_rims_between) f cdv A outer s H E) 2 := ⟨rfl, sc_rims_between.nd, passes_of rfl, hr⟩
  have hu1 := hu_of hr
  have hu65 := hu65_of hr
  exact sss_cons (ss_asg (ws := [1]) (se_dnew) (sg_name 1 hc.nd))
      (sss_cons (ss_for (ws := [2]) hc.own hc.calm (si_e (se_var 0)) (sg_name 2 hc.nd)
      (sss_one (ss_for (ws := [3, 4]) hc.own hc.calm (si_enum T.b_enumerate (sa_cons (se_var 2) (sa_nil))) (sg_tup hc.calm (sgs_cons (sg_name 3 hc.nd) (sgs_cons (sg_name 4 hc.nd) (sgs_nil))))
      (sss_one (ss_asg (ws := []) (se_ix (ixA hu1) (se_var 2) (se_bin opA_sub (se_var 3) (se_int))) (sg_sub (stA hu1) (se_var 1) (se_var 4)))))))
      (sss_cons (ss_asg (ws := [5]) (se_lst (sa_nil)) (sg_name 5 hc.nd))
      (sss_cons (ss_asg (ws := [6]) (se_dnew) (sg_name 6 hc.nd))
      (sss_cons (ss_for (ws := [7]) hc.own hc.calm (si_range1 T.b_range (sa_cons (se_cb ca_len T.b_len bb_len (sa_cons (se_var 1) (sa_nil))) (sa_nil))) (sg_name 7 hc.nd)
      (sss_one (ss_if (st_cmp (opA_notIn hu65) (se_var 7) (se_var 6))
      (sss_cons (ss_asg (ws := [8]) (se_call h_rim_from (hc.hr.mono (by decide)) rfl (sa_cons (se_var 1) (sa_cons (se_var 7) (sa_nil))) (al_cons (al_cons al_nil))) (sg_name 8 hc.nd))
      (sss_cons (ss_for (ws := [9]) hc.own hc.calm (si_e (se_var 8)) (sg_name 9 hc.nd)
      (sss_one (ss_asg (ws := []) (se_bl) (sg_sub (stA hu1) (se_var 6) (se_var 9)))))
      (sss_one (ss_exp (se_bm PySem.F.plainAttrs_list PySem.F.slot_list_append PySem.F.type_list_append ma_append (fun _ _ _ _ _ => isL_ty) (se_var 5) (sa_cons (se_var 8) (sa_nil)))))))
      (sss_nil))))
      (sss_one (ss_ret (se_var 5)))))))
abbrev s_hang_together : Stmt := topS 19
theorem sc_hang_together : FnScope ["places", "arrows", "reached", "grown", "tail", "head"] ["places", "arrows"] (defScope s_hang_together) := ⟨rfl, rfl, rfl, by decide +kernel, rfl, by decide +kernel, by decide +kernel⟩
theorem ok_hang_together {f : Addr} {fd : FuncData} (T : Txt P w K mg base g)  (F : Fun K "hang_together" "hang_together" s_hang_together f fd) : FnOk P w K mg base (L2.CX P w) 1 f fd ["places", "arrows"] (spOf K g 2 f_hang_together) :=
  fn_okA F sc_hang_together rfl fun cdv A outer s H E hr => by
  have hc : CxA (cxOf (L2.CX P w) P w K mg base ["places", "arrows", "reached", "grown", "tail", "head"] "hang_together" (defScope s_hang_together) f cdv A outer s H E) 0 := ⟨rfl, sc_hang_together.nd, passes_of rfl, hr⟩
  have hu1 := hu_of hr
  have hu65 := hu65_of hr
  exact sss_cons (ss_asg (ws := [2]) (se_disp (spp_cons (se_int) (se_bl) (spp_nil))) (sg_name 2 hc.nd))
      (sss_cons (ss_asg (ws := [3]) (se_bl) (sg_name 3 hc.nd))
      (sss_cons (ss_while hc.own (st_val (se_var 3))
      (sss_cons (ss_asg (ws := [3]) (se_bl) (sg_name 3 hc.nd))
      (sss_one (ss_for (ws := [4, 5]) hc.own hc.calm (si_e (se_var 1)) (sg_tup hc.calm (sgs_cons (sg_name 4 hc.nd) (sgs_cons (sg_name 5 hc.nd) (sgs_nil))))
      (sss_one (ss_if (st_cmp (opA_ne hc.hr.units) (se_cmp (opA_in hu65) (se_var 4) (se_var 2)) (se_cmp (opA_in hu65) (se_var 5) (se_var 2)))
      (sss_cons (ss_asg (ws := []) (se_bl) (sg_sub (stA hu1) (se_var 2) (se_var 4)))
      (sss_cons (ss_asg (ws := []) (se_bl) (sg_sub (stA hu1) (se_var 2) (se_var 5)))
      (sss_one (ss_asg (ws := [3]) (se_bl) (sg_name 3 hc.nd)))))
      (sss_nil)))))))
      (sss_one (ss_ret (se_cmp (opA_eq hc.hr.units) (se_cb ca_len T.b_len bb_len (sa_cons (se_var 2) (sa_nil))) (se_var 0))))))
abbrev s_is_price : Stmt := topS 20
theorem sc_is_price : FnScope ["thing"] ["thing"] (defScope s_is_price) := ⟨rfl, rfl, rfl, by decide +kernel, rfl, by decide +kernel, by decide +kernel⟩
theorem ok_is_price {f : Addr} {fd : FuncData} (T : Txt P w K mg base g) (h_is_between : FnA P w K mg base g 2 "is_between" 3 f_is_between) (F : Fun K "is_price" "is_price" s_is_price f fd) : FnOk P w K mg base (L2.CX P w) 3 f fd ["thing"] (spOf K g 1 f_is_price) :=
  fn_okA F sc_is_price rfl fun cdv A outer s H E hr => by
  have hc : CxA (cxOf (L2.CX P w) P w K mg base ["thing"] "is_price" (defScope s_is_price) f cdv A outer s H E) 2 := ⟨rfl, sc_is_price.nd, passes_of rfl, hr⟩
  have hu1 := hu_of hr
  have hu65 := hu65_of hr
  exact sss_one (ss_ret (se_or (se_cmp opA_isN (se_var 0) (se_non)) (se_one (se_call h_is_between (hc.hr.mono (by decide)) rfl (sa_cons (se_var 0) (sa_cons (se_int) (sa_cons (se_globI T.c_MOST_PRICE) (sa_nil)))) (al_cons (al_cons (al_cons al_nil)))))))
abbrev s_wrong_arrow : Stmt := topS 16
theorem sc_wrong_arrow : FnScope ["places", "arrows", "number", "pair", "place"] ["places", "arrows"] (defScope s_wrong_arrow) := ⟨rfl, rfl, rfl, by decide +kernel, rfl, by decide +kernel, by decide +kernel⟩
theorem ok_wrong_arrow {f : Addr} {fd : FuncData} (T : Txt P w K mg base g) (h_is_between : FnA P w K mg base g 2 "is_between" 3 f_is_between) (h_is_row : FnA P w K mg base g 1 "is_row" 2 f_is_row) (F : Fun K "wrong_arrow" "wrong_arrow" s_wrong_arrow f fd) : FnOk P w K mg base (L2.CX P w) 3 f fd ["places", "arrows"] (spOf K g 2 f_wrong_arrow) :=
  fn_okA F sc_wrong_arrow rfl fun cdv A outer s H E hr => by
  have hc : CxA (cxOf (L2.CX P w) P w K mg base ["places", "arrows", "number", "pair", "place"] "wrong_arrow" (defScope s_wrong_arrow) f cdv A outer s H E) 2 := ⟨rfl, sc_wrong_arrow.nd, passes_of rfl, hr⟩
  have hu1 := hu_of hr
  have hu65 := hu65_of hr
  exact sss_cons (ss_if (sw_st (sw_or (st_not (st_val (se_isi T.b_isinstance T.b_tuple bb_tuple (se_var 1)))) (sw_or1 (st_not (st_chain opA_le opA_le (se_int) (se_cb ca_len T.b_len bb_len (sa_cons (se_var 1) (sa_nil))) (se_globI T.c_MOST_ARROWS))))))
      (sss_one (ss_ret (se_tup (sa_cons (se_str) (sa_nil)))))
      (sss_nil))
      (sss_cons (ss_for (ws := [2, 3]) hc.own hc.calm (si_enum T.b_enumerate (sa_cons (se_var 1) (sa_nil))) (sg_tup hc.calm (sgs_cons (sg_name 2 hc.nd) (sgs_cons (sg_name 3 hc.nd) (sgs_nil))))
      (sss_one (ss_if (sw_st (sw_or (st_not (st_val (se_call h_is_row (hc.hr.mono (by decide)) rfl (sa_cons (se_var 3) (sa_cons (se_int) (sa_nil))) (al_cons (al_cons al_nil))))) (sw_or1 (st_not (st_val (se_cb (ca_all hc.calm) T.b_all bb_all (sa_cons (se_lc (own := [("place", 4)]) hc.calm hc.nd (si_e (se_var 3)) (blkOk_by (N := ["places", "arrows", "number", "pair", "place"]) (sc := defScope s_wrong_arrow) (by decide +kernel)) rfl (fun _ _ _ _ _ => sg_name 4 hc.nd) (fun _ _ _ _ _ => sts_nil) (fun _ _ _ _ _ => se_call h_is_between (hc.hr.mono (by decide)) rfl (sa_cons (se_var 4) (sa_cons (se_int) (sa_cons (se_bin opA_sub (se_var 0) (se_int)) (sa_nil)))) (al_cons (al_cons (al_cons al_nil))))) (sa_nil))))))))
      (sss_one (ss_ret (se_tup (sa_cons (se_str) (sa_cons (se_var 2) (sa_nil))))))
      (sss_nil))))
      (sss_one (ss_ret (se_non))))
abbrev s_ends_by_place : Stmt := topS 18
theorem sc_ends_by_place : FnScope ["places", "arrows", "ends", "number", "tail", "head", "place"] ["places", "arrows"] (defScope s_ends_by_place) := ⟨rfl, rfl, rfl, by decide +kernel, rfl, by decide +kernel, by decide +kernel⟩
theorem ok_ends_by_place {f : Addr} {fd : FuncData} (T : Txt P w K mg base g)  (F : Fun K "ends_by_place" "ends_by_place" s_ends_by_place f fd) : FnOk P w K mg base (L2.CX P w) 1 f fd ["places", "arrows"] (spOf K g 2 f_ends_by_place) :=
  fn_okA F sc_ends_by_place rfl fun cdv A outer s H E hr => by
  have hc : CxA (cxOf (L2.CX P w) P w K mg base ["places", "arrows", "ends", "number", "tail", "head", "place"] "ends_by_place" (defScope s_ends_by_place) f cdv A outer s H E) 0 := ⟨rfl, sc_ends_by_place.nd, passes_of rfl, hr⟩
  have hu1 := hu_of hr
  have hu65 := hu65_of hr
  exact sss_cons (ss_lc (i := 2) (own := [("place", 6)]) hc.calm hc.nd (si_range1 T.b_range (sa_cons (se_var 0) (sa_nil))) (blkOk_by (N := ["places", "arrows", "ends", "number", "tail", "head", "place"]) (sc := defScope s_ends_by_place) (by decide +kernel)) rfl (fun _ _ _ _ _ => sg_name 6 hc.nd) (fun _ _ _ _ _ => sts_nil) (fun _ _ _ _ _ => se_lst (sa_nil)))
      (sss_cons (ss_for (ws := [3, 4, 5]) hc.own hc.calm (si_enum T.b_enumerate (sa_cons (se_var 1) (sa_nil))) (sg_tup hc.calm (sgs_cons (sg_name 3 hc.nd) (sgs_cons (sg_tup hc.calm (sgs_cons (sg_name 4 hc.nd) (sgs_cons (sg_name 5 hc.nd) (sgs_nil)))) (sgs_nil))))
      (sss_cons (ss_exp (se_bm PySem.F.plainAttrs_list PySem.F.slot_list_append PySem.F.type_list_append ma_append (fun _ _ _ _ _ => isL_ty) (se_ix (ixA hu1) (se_var 2) (se_var 4)) (sa_cons (se_bin opA_mul (se_int) (se_var 3)) (sa_nil))))
      (sss_one (ss_exp (se_bm PySem.F.plainAttrs_list PySem.F.slot_list_append PySem.F.type_list_append ma_append (fun _ _ _ _ _ => isL_ty) (se_ix (ixA hu1) (se_var 2) (se_var 5)) (sa_cons (se_bin opA_add (se_bin opA_mul (se_int) (se_var 3)) (se_int)) (sa_nil)))))))
      (sss_one (ss_ret (se_var 2))))
abbrev s_wrong_round : Stmt := topS 17
theorem sc_wrong_round : FnScope ["places", "arrows", "rounds", "ends", "place", "row"] ["places", "arrows", "rounds"] (defScope s_wrong_round) := ⟨rfl, rfl, rfl, by decide +kernel, rfl, by decide +kernel, by decide +kernel⟩
theorem ok_wrong_round {f : Addr} {fd : FuncData} (T : Txt P w K mg base g) (h_are_whole : FnA P w K mg base g 2 "are_whole" 1 f_are_whole) (h_ends_by_place : FnA P w K mg base g 1 "ends_by_place" 2 f_ends_by_place) (h_is_row : FnA P w K mg base g 1 "is_row" 2 f_is_row) (F : Fun K "wrong_round" "wrong_round" s_wrong_round f fd) : FnOk P w K mg base (L2.CX P w) 3 f fd ["places", "arrows", "rounds"] (spOf K g 3 f_wrong_round) :=
  fn_okA F sc_wrong_round rfl fun cdv A outer s H E hr => by
  have hc : CxA (cxOf (L2.CX P w) P w K mg base ["places", "arrows", "rounds", "ends", "place", "row"] "wrong_round" (defScope s_wrong_round) f cdv A outer s H E) 2 := ⟨rfl, sc_wrong_round.nd, passes_of rfl, hr⟩
  have hu1 := hu_of hr
  have hu65 := hu65_of hr
  exact sss_cons (ss_if (st_not (st_val (se_call h_is_row (hc.hr.mono (by decide)) rfl (sa_cons (se_var 2) (sa_cons (se_var 0) (sa_nil))) (al_cons (al_cons al_nil)))))
      (sss_one (ss_ret (se_tup (sa_cons (se_str) (sa_nil)))))
      (sss_nil))
      (sss_cons (ss_asg (ws := [3]) (se_call h_ends_by_place (hc.hr.mono (by decide)) rfl (sa_cons (se_var 0) (sa_cons (se_var 1) (sa_nil))) (al_cons (al_cons al_nil))) (sg_name 3 hc.nd))
      (sss_cons (ss_for (ws := [4, 5]) hc.own hc.calm (si_enum T.b_enumerate (sa_cons (se_var 2) (sa_nil))) (sg_tup hc.calm (sgs_cons (sg_name 4 hc.nd) (sgs_cons (sg_name 5 hc.nd) (sgs_nil))))
      (sss_one (ss_if (sw_st (sw_or (st_not (st_val (se_call h_is_row (hc.hr.mono (by decide)) rfl (sa_cons (se_var 5) (sa_cons (se_cb ca_len T.b_len bb_len (sa_cons (se_ix (ixA hu1) (se_var 3) (se_var 4)) (sa_nil))) (sa_nil))) (al_cons (al_cons al_nil))))) (sw_or (st_not (st_val (se_call h_are_whole (hc.hr.mono (by decide)) rfl (sa_cons (se_var 5) (sa_nil)) (al_cons al_nil)))) (sw_or1 (st_cmp (opA_ne hc.hr.units) (se_cb ca_sorted T.b_sorted bb_sorted (sa_cons (se_var 5) (sa_nil))) (se_ix (ixA hu1) (se_var 3) (se_var 4)))))))
      (sss_one (ss_ret (se_tup (sa_cons (se_str) (sa_cons (se_var 4) (sa_nil))))))
      (sss_nil))))
      (sss_one (ss_ret (se_non)))))
abbrev s_wrong_part : Stmt := topS 15
theorem sc_wrong_part : FnScope ["places", "arrows", "rounds", "outer", "prices", "part", "price"] ["places", "arrows", "rounds", "outer", "prices"] (defScope s_wrong_part) := ⟨rfl, rfl, rfl, by decide +kernel, rfl, by decide +kernel, by decide +kernel⟩
theorem ok_wrong_part {f : Addr} {fd : FuncData} (T : Txt P w K mg base g) (h_hang_together : FnA P w K mg base g 1 "hang_together" 2 f_hang_together) (h_is_between : FnA P w K mg base g 2 "is_between" 3 f_is_between) (h_is_price : FnA P w K mg base g 3 "is_price" 1 f_is_price) (h_is_row : FnA P w K mg base g 1 "is_row" 2 f_is_row) (h_rims_between : FnA P w K mg base g 3 "rims_between" 1 f_rims_between) (h_wrong_arrow : FnA P w K mg base g 3 "wrong_arrow" 2 f_wrong_arrow) (h_wrong_round : FnA P w K mg base g 3 "wrong_round" 3 f_wrong_round) (F : Fun K "wrong_part" "wrong_part" s_wrong_part f fd) : FnOk P w K mg base (L2.CX P w) 4 f fd ["places", "arrows", "rounds", "outer", "prices"] (spOf K g 5 f_wrong_part) :=
  fn_okA F sc_wrong_part rfl fun cdv A outer s H E hr => by
  have hc : CxA (cxOf (L2.CX P w) P w K mg base ["places", "arrows", "rounds", "outer", "prices", "part", "price"] "wrong_part" (defScope s_wrong_part) f cdv A outer s H E) 3 := ⟨rfl, sc_wrong_part.nd, passes_of rfl, hr⟩
  have hu1 := hu_of hr
  have hu65 := hu65_of hr
  exact sss_cons (ss_if (st_not (st_val (se_call h_is_between (hc.hr.mono (by decide)) rfl (sa_cons (se_var 0) (sa_cons (se_int) (sa_cons (se_globI T.c_MOST_PLACES) (sa_nil)))) (al_cons (al_cons (al_cons al_nil))))))
      (sss_one (ss_ret (se_tup (sa_cons (se_str) (sa_nil)))))
      (sss_nil))
      (sss_cons (ss_asg (ws := [5]) (se_call h_wrong_arrow (hc.hr.mono (by decide)) rfl (sa_cons (se_var 0) (sa_cons (se_var 1) (sa_nil))) (al_cons (al_cons al_nil))) (sg_name 5 hc.nd))
      (sss_cons (ss_if (st_cmp opA_isN (se_var 5) (se_non))
      (sss_one (ss_asg (ws := [5]) (se_call h_wrong_round (hc.hr.mono (by decide)) rfl (sa_cons (se_var 0) (sa_cons (se_var 1) (sa_cons (se_var 2) (sa_nil)))) (al_cons (al_cons (al_cons al_nil)))) (sg_name 5 hc.nd)))
      (sss_nil))
      (sss_cons (ss_if (st_cmp opA_notN (se_var 5) (se_non))
      (sss_one (ss_ret (se_var 5)))
      (sss_nil))
      (sss_cons (ss_if (st_not (st_val (se_call h_hang_together (hc.hr.mono (by decide)) rfl (sa_cons (se_var 0) (sa_cons (se_var 1) (sa_nil))) (al_cons (al_cons al_nil)))))
      (sss_one (ss_ret (se_tup (sa_cons (se_str) (sa_nil)))))
      (sss_nil))
      (sss_cons (ss_if (st_cmp (opA_ne hc.hr.units) (se_bin opA_add (se_var 0) (se_cb ca_len T.b_len bb_len (sa_cons (se_call h_rims_between (hc.hr.mono (by decide)) rfl (sa_cons (se_var 2) (sa_nil)) (al_cons al_nil)) (sa_nil)))) (se_bin opA_add (se_cb ca_len T.b_len bb_len (sa_cons (se_var 1) (sa_nil))) (se_int)))
      (sss_one (ss_ret (se_tup (sa_cons (se_str) (sa_nil)))))
      (sss_nil))
      (sss_cons (ss_if (st_not (st_val (se_call h_is_between (hc.hr.mono (by decide)) rfl (sa_cons (se_var 3) (sa_cons (se_int) (sa_cons (se_bin opA_sub (se_bin opA_mul (se_int) (se_cb ca_len T.b_len bb_len (sa_cons (se_var 1) (sa_nil)))) (se_int)) (sa_nil)))) (al_cons (al_cons (al_cons al_nil))))))
      (sss_one (ss_ret (se_tup (sa_cons (se_str) (sa_nil)))))
      (sss_nil))
      (sss_cons (ss_if (sw_st (sw_or (st_not (st_val (se_call h_is_row (hc.hr.mono (by decide)) rfl (sa_cons (se_var 4) (sa_cons (se_cb ca_len T.b_len bb_len (sa_cons (se_var 1) (sa_nil))) (sa_nil))) (al_cons (al_cons al_nil))))) (sw_or1 (st_not (st_val (se_cb (ca_all hc.calm) T.b_all bb_all (sa_cons (se_lc (own := [("price", 6)]) hc.calm hc.nd (si_e (se_var 4)) (blkOk_by (N := ["places", "arrows", "rounds", "outer", "prices", "part", "price"]) (sc := defScope s_wrong_part) (by decide +kernel)) rfl (fun _ _ _ _ _ => sg_name 6 hc.nd) (fun _ _ _ _ _ => sts_nil) (fun _ _ _ _ _ => se_call h_is_price (hc.hr.mono (by decide)) rfl (sa_cons (se_var 6) (sa_nil)) (al_cons al_nil))) (sa_nil))))))))
      (sss_one (ss_ret (se_tup (sa_cons (se_str) (sa_nil)))))
      (sss_nil))
      (sss_one (ss_ret (se_non))))))))))
abbrev s_Chart_init : Stmt := clsS 14 0
theorem sc_Chart_init : FnScope ["self", "places", "arrows", "rounds", "outer", "prices", "part", "tail", "head", "row"] ["self", "places", "arrows", "rounds", "outer", "prices"] (defScope s_Chart_init) := ⟨rfl, rfl, rfl, by decide +kernel, rfl, by decide +kernel, by decide +kernel⟩
theorem ok_Chart_init {f : Addr} {fd : FuncData} (T : Txt P w K mg base g) (h_begun_least : FnA P w K mg base g 1 "begun_least" 1 f_begun_least) (h_least_beside : FnA P w K mg base g 1 "least_beside" 2 f_least_beside) (h_rims_between : FnA P w K mg base g 3 "rims_between" 1 f_rims_between) (h_wrong_part : FnA P w K mg base g 4 "wrong_part" 5 f_wrong_part) (F : Fun K "__init__" "Chart.__init__" s_Chart_init f fd) : FnOk P w K mg base (L2.CX P w) 5 f fd ["self", "places", "arrows", "rounds", "outer", "prices"] (spOf K g 6 f_Chart_init) :=
  fn_okA F sc_Chart_init rfl fun cdv A outer s H E hr => by
  have hc : CxA (cxOf (L2.CX P w) P w K mg base ["self", "places", "arrows", "rounds", "outer", "prices", "part", "tail", "head", "row"] "Chart.__init__" (defScope s_Chart_init) f cdv A outer s H E) 4 := ⟨rfl, sc_Chart_init.nd, passes_of rfl, hr⟩
  have hu1 := hu_of hr
  have hu65 := hu65_of hr
  exact sss_cons (ss_asg (ws := [6]) (se_call h_wrong_part (hc.hr.mono (by decide)) rfl (sa_cons (se_var 1) (sa_cons (se_var 2) (sa_cons (se_var 3) (sa_cons (se_var 4) (sa_cons (se_var 5) (sa_nil)))))) (al_cons (al_cons (al_cons (al_cons (al_cons al_nil)))))) (sg_name 6 hc.nd))
      (sss_cons (ss_if (st_cmp opA_notN (se_var 6) (se_non))
      (sss_one (ss_raise1 T.er_BadChart hc.calm (hc.hr.mono (by decide)) (se_var 6)))
      (sss_nil))
      (sss_cons (ss_fld T.cls_Chart T.nf_places (se_var 0) (se_var 1))
      (sss_cons (ss_fld T.cls_Chart T.nf_arrows (se_var 0) (se_ct ca_tuple T.b_tuple bb_tuple (sa_cons (se_lc (own := [("tail", 7), ("head", 8)]) hc.calm hc.nd (si_e (se_var 2)) (blkOk_by (N := ["self", "places", "arrows", "rounds", "outer", "prices", "part", "tail", "head", "row"]) (sc := defScope s_Chart_init) (by decide +kernel)) rfl (fun _ _ _ _ _ => sg_tup hc.calm (sgs_cons (sg_name 7 hc.nd) (sgs_cons (sg_name 8 hc.nd) (sgs_nil)))) (fun _ _ _ _ _ => sts_nil) (fun _ _ _ _ _ => se_tup (sa_cons (se_var 7) (sa_cons (se_var 8) (sa_nil))))) (sa_nil))))
      (sss_cons (ss_fld T.cls_Chart T.nf_rounds (se_var 0) (se_ct ca_tuple T.b_tuple bb_tuple (sa_cons (se_lc (own := [("row", 9)]) hc.calm hc.nd (si_e (se_var 3)) (blkOk_by (N := ["self", "places", "arrows", "rounds", "outer", "prices", "part", "tail", "head", "row"]) (sc := defScope s_Chart_init) (by decide +kernel)) rfl (fun _ _ _ _ _ => sg_name 9 hc.nd) (fun _ _ _ _ _ => sts_nil) (fun _ _ _ _ _ => se_call h_begun_least (hc.hr.mono (by decide)) rfl (sa_cons (se_var 9) (sa_nil)) (al_cons al_nil))) (sa_nil))))
      (sss_cons (ss_fld T.cls_Chart T.nf_outer (se_var 0) (se_call h_least_beside (hc.hr.mono (by decide)) rfl (sa_cons (se_call h_rims_between (hc.hr.mono (by decide)) rfl (sa_cons (se_var 3) (sa_nil)) (al_cons al_nil)) (sa_cons (se_var 4) (sa_nil))) (al_cons (al_cons al_nil))))
      (sss_one (ss_fld T.cls_Chart T.nf_prices (se_var 0) (se_ct ca_tuple T.b_tuple bb_tuple (sa_cons (se_var 5) (sa_nil))))))))))
abbrev s_is_end : Stmt := topS 26
theorem sc_is_end : FnScope ["chart", "thing"] ["chart", "thing"] (defScope s_is_end) := ⟨rfl, rfl, rfl, by decide +kernel, rfl, by decide +kernel, by decide +kernel⟩
theorem ok_is_end {f : Addr} {fd : FuncData} (T : Txt P w K mg base g) (h_is_between : FnA P w K mg base g 2 "is_between" 3 f_is_between) (F : Fun K "is_end" "is_end" s_is_end f fd) : FnOk P w K mg base (L2.CX P w) 3 f fd ["chart", "thing"] (spOf K g 2 f_is_end) :=
  fn_okA F sc_is_end rfl fun cdv A outer s H E hr => by
  have hc : CxA (cxOf (L2.CX P w) P w K mg base ["chart", "thing"] "is_end" (defScope s_is_end) f cdv A outer s H E) 2 := ⟨rfl, sc_is_end.nd, passes_of rfl, hr⟩
  have hu1 := hu_of hr
  have hu65 := hu65_of hr
  exact sss_one (ss_ret (se_call h_is_between (hc.hr.mono (by decide)) rfl (sa_cons (se_var 1) (sa_cons (se_int) (sa_cons (se_bin opA_sub (se_bin opA_mul (se_int) (se_cb ca_len T.b_len bb_len (sa_cons (se_fld T.cls_Chart T.nf_arrows (se_var 0)) (sa_nil)))) (se_int)) (sa_nil)))) (al_cons (al_cons (al_cons al_nil)))))
abbrev s_rims : Stmt := topS 27
theorem sc_rims : FnScope ["chart"] ["chart"] (defScope s_rims) := ⟨rfl, rfl, rfl, by decide +kernel, rfl, by decide +kernel, by decide +kernel⟩
theorem ok_rims {f : Addr} {fd : FuncData} (T : Txt P w K mg base g) (h_rims_between : FnA P w K mg base g 3 "rims_between" 1 f_rims_between) (F : Fun K "rims" "rims" s_rims f fd) : FnOk P w K mg base (L2.CX P w) 4 f fd ["chart"] (spOf K g 1 f_rims) :=
  fn_okA F sc_rims rfl fun cdv A outer s H E hr => by
  have hc : CxA (cxOf (L2.CX P w) P w K mg base ["chart"] "rims" (defScope s_rims) f cdv A outer s H E) 3 := ⟨rfl, sc_rims.nd, passes_of rfl, hr⟩
  have hu1 := hu_of hr
  have hu65 := hu65_of hr
  exact sss_one (ss_ret (se_call h_rims_between (hc.hr.mono (by decide)) rfl (sa_cons (se_fld T.cls_Chart T.nf_rounds (se_var 0)) (sa_nil)) (al_cons al_nil)))
abbrev s_rim_numbers : Stmt := topS 28
theorem sc_rim_numbers : FnScope ["chart", "numbers", "number", "rim", "angle"] ["chart"] (defScope s_rim_numbers) := ⟨rfl, rfl, rfl, by decide +kernel, rfl, by decide +kernel, by decide +kernel⟩
theorem ok_rim_numbers {f : Addr} {fd : FuncData} (T : Txt P w K mg base g) (h_rims : FnA P w K mg base g 4 "rims" 1 f_rims) (F : Fun K "rim_numbers" "rim_numbers" s_rim_numbers f fd) : FnOk P w K mg base (L2.CX P w) 5 f fd ["chart"] (spOf K g 1 f_rim_numbers) :=
  fn_okA F sc_rim_numbers rfl fun cdv A outer s H E hr => by
  have hc : CxA (cxOf (L2.CX P w) P w K mg base ["chart", "numbers", "number", "rim", "angle"] "rim_numbers" (defScope s_rim_numbers) f cdv A outer s H E) 4 := ⟨rfl, sc_rim_numbers.nd, passes_of rfl, hr⟩
  have hu1 := hu_of hr
  have hu65 := hu65_of hr
  exact sss_cons (ss_asg (ws := [1]) (se_bin opA_mul (se_lst (sa_cons (se_int) (sa_nil))) (se_bin opA_mul (se_int) (se_cb ca_len T.b_len bb_len (sa_cons (se_fld T.cls_Chart T.nf_arrows (se_var 0)) (sa_nil))))) (sg_name 1 hc.nd))
      (sss_cons (ss_for (ws := [2, 3]) hc.own hc.calm (si_enum T.b_enumerate (sa_cons (se_call h_rims (hc.hr.mono (by decide)) rfl (sa_cons (se_var 0) (sa_nil)) (al_cons al_nil)) (sa_nil))) (sg_tup hc.calm (sgs_cons (sg_name 2 hc.nd) (sgs_cons (sg_name 3 hc.nd) (sgs_nil))))
      (sss_one (ss_for (ws := [4]) hc.own hc.calm (si_e (se_var 3)) (sg_name 4 hc.nd)
      (sss_one (ss_asg (ws := []) (se_var 2) (sg_sub (stA hu1) (se_var 1) (se_var 4)))))))
      (sss_one (ss_ret (se_var 1))))
abbrev s_rim_of : Stmt := topS 29
theorem sc_rim_of : FnScope ["chart", "angle"] ["chart", "angle"] (defScope s_rim_of) := ⟨rfl, rfl, rfl, by decide +kernel, rfl, by decide +kernel, by decide +kernel⟩
theorem ok_rim_of {f : Addr} {fd : FuncData} (T : Txt P w K mg base g) (h_is_end : FnA P w K mg base g 3 "is_end" 2 f_is_end) (h_rim_numbers : FnA P w K mg base g 5 "rim_numbers" 1 f_rim_numbers) (F : Fun K "rim_of" "rim_of" s_rim_of f fd) : FnOk P w K mg base (L2.CX P w) 6 f fd ["chart", "angle"] (spOf K g 2 f_rim_of) :=
  fn_okA F sc_rim_of rfl fun cdv A outer s H E hr => by
  have hc : CxA (cxOf (L2.CX P w) P w K mg base ["chart", "angle"] "rim_of" (defScope s_rim_of) f cdv A outer s H E) 5 := ⟨rfl, sc_rim_of.nd, passes_of rfl, hr⟩
  have hu1 := hu_of hr
  have hu65 := hu65_of hr
  exact sss_cons (ss_if (st_not (st_val (se_call h_is_end (hc.hr.mono (by decide)) rfl (sa_cons (se_var 0) (sa_cons (se_var 1) (sa_nil))) (al_cons (al_cons al_nil)))))
      (sss_one (ss_raise0 T.er_NoEnd hc.calm (hc.hr.mono (by decide))))
      (sss_nil))
      (sss_one (ss_ret (se_ix (ixA hu1) (se_call h_rim_numbers (hc.hr.mono (by decide)) rfl (sa_cons (se_var 0) (sa_nil)) (al_cons al_nil)) (se_var 1))))
abbrev s_sides : Stmt := topS 30
theorem sc_sides : FnScope ["chart", "arrow", "numbers"] ["chart", "arrow"] (defScope s_sides) := ⟨rfl, rfl, rfl, by decide +kernel, rfl, by decide +kernel, by decide +kernel⟩
theorem ok_sides {f : Addr} {fd : FuncData} (T : Txt P w K mg base g) (h_is_between : FnA P w K mg base g 2 "is_between" 3 f_is_between) (h_rim_numbers : FnA P w K mg base g 5 "rim_numbers" 1 f_rim_numbers) (F : Fun K "sides" "sides" s_sides f fd) : FnOk P w K mg base (L2.CX P w) 6 f fd ["chart", "arrow"] (spOf K g 2 f_sides) :=
  fn_okA F sc_sides rfl fun cdv A outer s H E hr => by
  have hc : CxA (cxOf (L2.CX P w) P w K mg base ["chart", "arrow", "numbers"] "sides" (defScope s_sides) f cdv A outer s H E) 5 := ⟨rfl, sc_sides.nd, passes_of rfl, hr⟩
  have hu1 := hu_of hr
  have hu65 := hu65_of hr
  exact sss_cons (ss_if (st_not (st_val (se_call h_is_between (hc.hr.mono (by decide)) rfl (sa_cons (se_var 1) (sa_cons (se_int) (sa_cons (se_bin opA_sub (se_cb ca_len T.b_len bb_len (sa_cons (se_fld T.cls_Chart T.nf_arrows (se_var 0)) (sa_nil))) (se_int)) (sa_nil)))) (al_cons (al_cons (al_cons al_nil))))))
      (sss_one (ss_raise0 T.er_NoArrow hc.calm (hc.hr.mono (by decide))))
      (sss_nil))
      (sss_cons (ss_asg (ws := [2]) (se_call h_rim_numbers (hc.hr.mono (by decide)) rfl (sa_cons (se_var 0) (sa_nil)) (al_cons al_nil)) (sg_name 2 hc.nd))
      (sss_one (ss_ret (se_tup (sa_cons (se_ix (ixA hu1) (se_var 2) (se_bin opA_add (se_bin opA_mul (se_int) (se_var 1)) (se_int))) (sa_cons (se_ix (ixA hu1) (se_var 2) (se_bin opA_mul (se_int) (se_var 1))) (sa_nil)))))))
abbrev s_word_between : Stmt := topS 32
theorem sc_word_between : FnScope ["end", "behind"] ["end", "behind"] (defScope s_word_between) := ⟨rfl, rfl, rfl, by decide +kernel, rfl, by decide +kernel, by decide +kernel⟩
theorem ok_word_between {f : Addr} {fd : FuncData} (T : Txt P w K mg base g)  (F : Fun K "word_between" "word_between" s_word_between f fd) : FnOk P w K mg base (L2.CX P w) 1 f fd ["end", "behind"] (spOf K g 2 f_word_between) :=
  fn_okA F sc_word_between rfl fun cdv A outer s H E hr => by
  have hc : CxA (cxOf (L2.CX P w) P w K mg base ["end", "behind"] "word_between" (defScope s_word_between) f cdv A outer s H E) 0 := ⟨rfl, sc_word_between.nd, passes_of rfl, hr⟩
  have hu1 := hu_of hr
  have hu65 := hu65_of hr
  exact sss_cons (ss_if (st_cmp (opA_ne hc.hr.units) (se_bin opA_mod (se_var 0) (se_int)) (se_bin opA_mod (se_var 1) (se_int)))
      (sss_one (ss_ret (se_str)))
      (sss_nil))
      (sss_cons (ss_if (st_cmp (opA_eq hc.hr.units) (se_bin opA_mod (se_var 0) (se_int)) (se_int))
      (sss_one (ss_ret (se_str)))
      (sss_nil))
      (sss_one (ss_ret (se_str))))
abbrev s_words : Stmt := topS 31
theorem sc_words : FnScope ["chart", "told", "row", "at", "end"] ["chart"] (defScope s_words) := ⟨rfl, rfl, rfl, by decide +kernel, rfl, by decide +kernel, by decide +kernel⟩
theorem ok_words {f : Addr} {fd : FuncData} (T : Txt P w K mg base g) (h_word_between : FnA P w K mg base g 1 "word_between" 2 f_word_between) (F : Fun K "words" "words" s_words f fd) : FnOk P w K mg base (L2.CX P w) 2 f fd ["chart"] (spOf K g 1 f_words) :=
  fn_okA F sc_words rfl fun cdv A outer s H E hr => by
  have hc : CxA (cxOf (L2.CX P w) P w K mg base ["chart", "told", "row", "at", "end"] "words" (defScope s_words) f cdv A outer s H E) 1 := ⟨rfl, sc_words.nd, passes_of rfl, hr⟩
  have hu1 := hu_of hr
  have hu65 := hu65_of hr
  exact sss_cons (ss_asg (ws := [1]) (se_bin opA_mul (se_lst (sa_cons (se_str) (sa_nil))) (se_bin opA_mul (se_int) (se_cb ca_len T.b_len bb_len (sa_cons (se_fld T.cls_Chart T.nf_arrows (se_var 0)) (sa_nil))))) (sg_name 1 hc.nd))
      (sss_cons (ss_for (ws := [2]) hc.own hc.calm (si_e (se_fld T.cls_Chart T.nf_rounds (se_var 0))) (sg_name 2 hc.nd)
      (sss_one (ss_for (ws := [3, 4]) hc.own hc.calm (si_enum T.b_enumerate (sa_cons (se_var 2) (sa_nil))) (sg_tup hc.calm (sgs_cons (sg_name 3 hc.nd) (sgs_cons (sg_name 4 hc.nd) (sgs_nil))))
      (sss_one (ss_asg (ws := []) (se_call h_word_between (hc.hr.mono (by decide)) rfl (sa_cons (se_ix (ixA hu1) (se_var 2) (se_bin opA_sub (se_var 3) (se_int))) (sa_cons (se_var 4) (sa_nil))) (al_cons (al_cons al_nil))) (sg_sub (stA hu1) (se_var 1) (se_ix (ixA hu1) (se_var 2) (se_bin opA_sub (se_var 3) (se_int)))))))))
      (sss_one (ss_ret (se_var 1))))
abbrev s_word_at : Stmt := topS 33
theorem sc_word_at : FnScope ["chart", "angle"] ["chart", "angle"] (defScope s_word_at) := ⟨rfl, rfl, rfl, by decide +kernel, rfl, by decide +kernel, by decide +kernel⟩
theorem ok_word_at {f : Addr} {fd : FuncData} (T : Txt P w K mg base g) (h_is_end : FnA P w K mg base g 3 "is_end" 2 f_is_end) (h_words : FnA P w K mg base g 2 "words" 1 f_words) (F : Fun K "word_at" "word_at" s_word_at f fd) : FnOk P w K mg base (L2.CX P w) 4 f fd ["chart", "angle"] (spOf K g 2 f_word_at) :=
  fn_okA F sc_word_at rfl fun cdv A outer s H E hr => by
  have hc : CxA (cxOf (L2.CX P w) P w K mg base ["chart", "angle"] "word_at" (defScope s_word_at) f cdv A outer s H E) 3 := ⟨rfl, sc_word_at.nd, passes_of rfl, hr⟩
  have hu1 := hu_of hr
  have hu65 := hu65_of hr
  exact sss_cons (ss_if (st_not (st_val (se_call h_is_end (hc.hr.mono (by decide)) rfl (sa_cons (se_var 0) (sa_cons (se_var 1) (sa_nil))) (al_cons (al_cons al_nil)))))
      (sss_one (ss_raise0 T.er_NoEnd hc.calm (hc.hr.mono (by decide))))
      (sss_nil))
      (sss_one (ss_ret (se_ix (ixA hu1) (se_call h_words (hc.hr.mono (by decide)) rfl (sa_cons (se_var 0) (sa_nil)) (al_cons al_nil)) (se_var 1))))
abbrev s_asks : Stmt := topS 34
theorem sc_asks : FnScope ["chart", "told", "asked", "rim", "forks", "angle"] ["chart"] (defScope s_asks) := ⟨rfl, rfl, rfl, by decide +kernel, rfl, by decide +kernel, by decide +kernel⟩
theorem ok_asks {f : Addr} {fd : FuncData} (T : Txt P w K mg base g) (h_rims : FnA P w K mg base g 4 "rims" 1 f_rims) (h_words : FnA P w K mg base g 2 "words" 1 f_words) (F : Fun K "asks" "asks" s_asks f fd) : FnOk P w K mg base (L2.CX P w) 5 f fd ["chart"] (spOf K g 1 f_asks) :=
  fn_okA F sc_asks rfl fun cdv A outer s H E hr => by
  have hc : CxA (cxOf (L2.CX P w) P w K mg base ["chart", "told", "asked", "rim", "forks", "angle"] "asks" (defScope s_asks) f cdv A outer s H E) 4 := ⟨rfl, sc_asks.nd, passes_of rfl, hr⟩
  have hu1 := hu_of hr
  have hu65 := hu65_of hr
  exact sss_cons (ss_asg (ws := [1]) (se_call h_words (hc.hr.mono (by decide)) rfl (sa_cons (se_var 0) (sa_nil)) (al_cons al_nil)) (sg_name 1 hc.nd))
      (sss_cons (ss_asg (ws := [2]) (se_lst (sa_nil)) (sg_name 2 hc.nd))
      (sss_cons (ss_for (ws := [3]) hc.own hc.calm (si_e (se_call h_rims (hc.hr.mono (by decide)) rfl (sa_cons (se_var 0) (sa_nil)) (al_cons al_nil))) (sg_name 3 hc.nd)
      (sss_cons (ss_asg (ws := [4]) (se_cb ca_len T.b_len bb_len (sa_cons (se_lc (own := [("angle", 5)]) hc.calm hc.nd (si_e (se_var 3)) (blkOk_by (N := ["chart", "told", "asked", "rim", "forks", "angle"]) (sc := defScope s_asks) (by decide +kernel)) rfl (fun _ _ _ _ _ => sg_name 5 hc.nd) (fun _ _ _ _ _ => sts_one (st_cmp (opA_eq hc.hr.units) (se_ix (ixA hu1) (se_var 1) (se_var 5)) (se_str))) (fun _ _ _ _ _ => se_var 5)) (sa_nil))) (sg_name 4 hc.nd))
      (sss_one (ss_if (st_cmp (opA_in hu65) (se_fld T.cls_Chart T.nf_outer (se_var 0)) (se_var 3))
      (sss_one (ss_exp (se_bm PySem.F.plainAttrs_list PySem.F.slot_list_append PySem.F.type_list_append ma_append (fun _ _ _ _ _ => isL_ty) (se_var 2) (sa_cons (se_bin opA_add (se_var 4) (se_int)) (sa_nil)))))
      (sss_one (ss_exp (se_bm PySem.F.plainAttrs_list PySem.F.slot_list_append PySem.F.type_list_append ma_append (fun _ _ _ _ _ => isL_ty) (se_var 2) (sa_cons (se_bin opA_sub (se_var 4) (se_int)) (sa_nil)))))))))
      (sss_one (ss_ret (se_ct ca_tuple T.b_tuple bb_tuple (sa_cons (se_var 2) (sa_nil)))))))
abbrev s_changes : Stmt := topS 37
theorem sc_changes : FnScope ["row", "at", "end"] ["row"] (defScope s_changes) := ⟨rfl, rfl, rfl, by decide +kernel, rfl, by decide +kernel, by decide +kernel⟩
theorem ok_changes {f : Addr} {fd : FuncData} (T : Txt P w K mg base g) (h_word_between : FnA P w K mg base g 1 "word_between" 2 f_word_between) (F : Fun K "changes" "changes" s_changes f fd) : FnOk P w K mg base (L2.CX P w) 2 f fd ["row"] (spOf K g 1 f_changes) :=
  fn_okA F sc_changes rfl fun cdv A outer s H E hr => by
  have hc : CxA (cxOf (L2.CX P w) P w K mg base ["row", "at", "end"] "changes" (defScope s_changes) f cdv A outer s H E) 1 := ⟨rfl, sc_changes.nd, passes_of rfl, hr⟩
  have hu1 := hu_of hr
  have hu65 := hu65_of hr
  exact sss_one (ss_ret (se_cb ca_len T.b_len bb_len (sa_cons (se_lc (own := [("at", 1), ("end", 2)]) hc.calm hc.nd (si_enum T.b_enumerate (sa_cons (se_var 0) (sa_nil))) (blkOk_by (N := ["row", "at", "end"]) (sc := defScope s_changes) (by decide +kernel)) rfl (fun _ _ _ _ _ => sg_tup hc.calm (sgs_cons (sg_name 1 hc.nd) (sgs_cons (sg_name 2 hc.nd) (sgs_nil)))) (fun _ _ _ _ _ => sts_one (st_cmp (opA_eq hc.hr.units) (se_call h_word_between (hc.hr.mono (by decide)) rfl (sa_cons (se_ix (ixA hu1) (se_var 0) (se_bin opA_sub (se_var 1) (se_int))) (sa_cons (se_var 2) (sa_nil))) (al_cons (al_cons al_nil))) (se_str))) (fun _ _ _ _ _ => se_var 1)) (sa_nil))))
abbrev s_tips : Stmt := topS 35
theorem sc_tips : FnScope ["chart", "place", "row"] ["chart"] (defScope s_tips) := ⟨rfl, rfl, rfl, by decide +kernel, rfl, by decide +kernel, by decide +kernel⟩
theorem ok_tips {f : Addr} {fd : FuncData} (T : Txt P w K mg base g) (h_changes : FnA P w K mg base g 2 "changes" 1 f_changes) (F : Fun K "tips" "tips" s_tips f fd) : FnOk P w K mg base (L2.CX P w) 3 f fd ["chart"] (spOf K g 1 f_tips) :=
  fn_okA F sc_tips rfl fun cdv A outer s H E hr => by
  have hc : CxA (cxOf (L2.CX P w) P w K mg base ["chart", "place", "row"] "tips" (defScope s_tips) f cdv A outer s H E) 2 := ⟨rfl, sc_tips.nd, passes_of rfl, hr⟩
  have hu1 := hu_of hr
  have hu65 := hu65_of hr
  exact sss_one (ss_ret (se_ct ca_tuple T.b_tuple bb_tuple (sa_cons (se_lc (own := [("place", 1), ("row", 2)]) hc.calm hc.nd (si_enum T.b_enumerate (sa_cons (se_fld T.cls_Chart T.nf_rounds (se_var 0)) (sa_nil))) (blkOk_by (N := ["chart", "place", "row"]) (sc := defScope s_tips) (by decide +kernel)) rfl (fun _ _ _ _ _ => sg_tup hc.calm (sgs_cons (sg_name 1 hc.nd) (sgs_cons (sg_name 2 hc.nd) (sgs_nil)))) (fun _ _ _ _ _ => sts_one (st_cmp (opA_eq hc.hr.units) (se_call h_changes (hc.hr.mono (by decide)) rfl (sa_cons (se_var 2) (sa_nil)) (al_cons al_nil)) (se_int))) (fun _ _ _ _ _ => se_var 1)) (sa_nil))))
abbrev s_tangled : Stmt := topS 36
theorem sc_tangled : FnScope ["chart", "place", "row"] ["chart"] (defScope s_tangled) := ⟨rfl, rfl, rfl, by decide +kernel, rfl, by decide +kernel, by decide +kernel⟩
theorem ok_tangled {f : Addr} {fd : FuncData} (T : Txt P w K mg base g) (h_changes : FnA P w K mg base g 2 "changes" 1 f_changes) (F : Fun K "tangled" "tangled" s_tangled f fd) : FnOk P w K mg base (L2.CX P w) 3 f fd ["chart"] (spOf K g 1 f_tangled) :=
  fn_okA F sc_tangled rfl fun cdv A outer s H E hr => by
  have hc : CxA (cxOf (L2.CX P w) P w K mg base ["chart", "place", "row"] "tangled" (defScope s_tangled) f cdv A outer s H E) 2 := ⟨rfl, sc_tangled.nd, passes_of rfl, hr⟩
  have hu1 := hu_of hr
  have hu65 := hu65_of hr
  exact sss_cons (ss_for (ws := [1, 2]) hc.own hc.calm (si_enum T.b_enumerate (sa_cons (se_fld T.cls_Chart T.nf_rounds (se_var 0)) (sa_nil))) (sg_tup hc.calm (sgs_cons (sg_name 1 hc.nd) (sgs_cons (sg_name 2 hc.nd) (sgs_nil))))
      (sss_one (ss_if (st_cmp opA_gt (se_call h_changes (hc.hr.mono (by decide)) rfl (sa_cons (se_var 2) (sa_nil)) (al_cons al_nil)) (se_int))
      (sss_one (ss_ret (se_var 1)))
      (sss_nil))))
      (sss_one (ss_ret (se_non)))
abbrev s_law_is_straight : Stmt := topS 39
theorem sc_law_is_straight : FnScope ["after", "angle"] ["after", "angle"] (defScope s_law_is_straight) := ⟨rfl, rfl, rfl, by decide +kernel, rfl, by decide +kernel, by decide +kernel⟩
theorem ok_law_is_straight {f : Addr} {fd : FuncData} (T : Txt P w K mg base g)  (F : Fun K "_law_is_straight" "_law_is_straight" s_law_is_straight f fd) : FnOk P w K mg base (L2.CX P w) 1 f fd ["after", "angle"] (spOf K g 2 f_law_is_straight) :=
  fn_okA F sc_law_is_straight rfl fun cdv A outer s H E hr => by
  have hc : CxA (cxOf (L2.CX P w) P w K mg base ["after", "angle"] "_law_is_straight" (defScope s_law_is_straight) f cdv A outer s H E) 0 := ⟨rfl, sc_law_is_straight.nd, passes_of rfl, hr⟩
  have hu1 := hu_of hr
  have hu65 := hu65_of hr
  exact sss_one (ss_ret (se_cmp (opA_ne hc.hr.units) (se_bin opA_mod (se_ct ca_int T.b_int bb_int (sa_cons (se_var 1) (sa_nil))) (se_int)) (se_bin opA_mod (se_ct ca_int T.b_int bb_int (sa_cons (se_ix (ixA hu1) (se_var 0) (se_var 1)) (sa_nil))) (se_int))))
abbrev s_law_after : Stmt := topS 40
theorem sc_law_after : FnScope ["rounds", "found", "ends", "at", "end"] ["rounds"] (defScope s_law_after) := ⟨rfl, rfl, rfl, by decide +kernel, rfl, by decide +kernel, by decide +kernel⟩
theorem ok_law_after {f : Addr} {fd : FuncData} (T : Txt P w K mg base g)  (F : Fun K "_law_after" "_law_after" s_law_after f fd) : FnOk P w K mg base (L2.CX P w) 1 f fd ["rounds"] (spOf K g 1 f_law_after) :=
  fn_okA F sc_law_after rfl fun cdv A outer s H E hr => by
  have hc : CxA (cxOf (L2.CX P w) P w K mg base ["rounds", "found", "ends", "at", "end"] "_law_after" (defScope s_law_after) f cdv A outer s H E) 0 := ⟨rfl, sc_law_after.nd, passes_of rfl, hr⟩
  have hu1 := hu_of hr
  have hu65 := hu65_of hr
  exact sss_cons (ss_asg (ws := [1]) (se_dnew) (sg_name 1 hc.nd))
      (sss_cons (ss_for (ws := [2]) hc.own hc.calm (si_e (se_var 0)) (sg_name 2 hc.nd)
      (sss_one (ss_for (ws := [3, 4]) hc.own hc.calm (si_enum T.b_enumerate (sa_cons (se_var 2) (sa_nil))) (sg_tup hc.calm (sgs_cons (sg_name 3 hc.nd) (sgs_cons (sg_name 4 hc.nd) (sgs_nil))))
      (sss_one (ss_asg (ws := []) (se_var 4) (sg_sub (stA hu1) (se_var 1) (se_ix (ixA hu1) (se_var 2) (se_bin opA_sub (se_var 3) (se_int)))))))))
      (sss_one (ss_ret (se_var 1))))
abbrev s_law_other : Stmt := topS 41
theorem sc_law_other : FnScope ["end"] ["end"] (defScope s_law_other) := ⟨rfl, rfl, rfl, by decide +kernel, rfl, by decide +kernel, by decide +kernel⟩
theorem ok_law_other {f : Addr} {fd : FuncData} (T : Txt P w K mg base g)  (F : Fun K "_law_other" "_law_other" s_law_other f fd) : FnOk P w K mg base (L2.CX P w) 1 f fd ["end"] (spOf K g 1 f_law_other) :=
  fn_okA F sc_law_other rfl fun cdv A outer s H E hr => by
  have hc : CxA (cxOf (L2.CX P w) P w K mg base ["end"] "_law_other" (defScope s_law_other) f cdv A outer s H E) 0 := ⟨rfl, sc_law_other.nd, passes_of rfl, hr⟩
  have hu1 := hu_of hr
  have hu65 := hu65_of hr
  exact sss_one (ss_ret (se_bin opA_sub (se_bin opA_add (se_var 0) (se_int)) (se_bin opA_mul (se_int) (se_bin opA_mod (se_ct ca_int T.b_int bb_int (sa_cons (se_var 0) (sa_nil))) (se_int)))))
abbrev s_law_rims : Stmt := topS 42
theorem sc_law_rims : FnScope ["rounds", "ahead", "ends", "at", "end", "found", "seen", "angle", "rim", "here", "turn"] ["rounds"] (defScope s_law_rims) := ⟨rfl, rfl, rfl, by decide +kernel, rfl, by decide +kernel, by decide +kernel⟩
theorem ok_law_rims {f : Addr} {fd : FuncData} (T : Txt P w K mg base g) (h_law_other : FnA P w K mg base g 1 "_law_other" 1 f_law_other) (F : Fun K "_law_rims" "_law_rims" s_law_rims f fd) : FnOk P w K mg base (L2.CX P w) 2 f fd ["rounds"] (spOf K g 1 f_law_rims) :=
  fn_okA F sc_law_rims rfl fun cdv A outer s H E hr => by
  have hc : CxA (cxOf (L2.CX P w) P w K mg base ["rounds", "ahead", "ends", "at", "end", "found", "seen", "angle", "rim", "here", "turn"] "_law_rims" (defScope s_law_rims) f cdv A outer s H E) 1 := ⟨rfl, sc_law_rims.nd, passes_of rfl, hr⟩
  have hu1 := hu_of hr
  have hu65 := hu65_of hr
  exact sss_cons (ss_asg (ws := [1]) (se_dnew) (sg_name 1 hc.nd))
      (sss_cons (ss_for (ws := [2]) hc.own hc.calm (si_e (se_var 0)) (sg_name 2 hc.nd)
      (sss_one (ss_for (ws := [3, 4]) hc.own hc.calm (si_enum T.b_enumerate (sa_cons (se_var 2) (sa_nil))) (sg_tup hc.calm (sgs_cons (sg_name 3 hc.nd) (sgs_cons (sg_name 4 hc.nd) (sgs_nil))))
      (sss_one (ss_asg (ws := []) (se_ix (ixA hu1) (se_var 2) (se_bin opA_sub (se_var 3) (se_int))) (sg_sub (stA hu1) (se_var 1) (se_var 4)))))))
      (sss_cons (ss_asg (ws := [5]) (se_lst (sa_nil)) (sg_name 5 hc.nd))
      (sss_cons (ss_asg (ws := [6]) (se_dnew) (sg_name 6 hc.nd))
      (sss_cons (ss_for (ws := [7]) hc.own hc.calm (si_e (se_cb ca_sorted T.b_sorted bb_sorted (sa_cons (se_ct (ca_list hc.calm) T.b_list bb_list (sa_cons (se_var 1) (sa_nil))) (sa_nil)))) (sg_name 7 hc.nd)
      (sss_one (ss_if (st_cmp (opA_notIn hu65) (se_var 7) (se_var 6))
      (sss_cons (ss_asg (ws := [8]) (se_lst (sa_nil)) (sg_name 8 hc.nd))
      (sss_cons (ss_asg (ws := [9]) (se_var 7) (sg_name 9 hc.nd))
      (sss_cons (ss_for (ws := [10]) hc.own hc.calm (si_range1 T.b_range (sa_cons (se_cb ca_len T.b_len bb_len (sa_cons (se_var 1) (sa_nil))) (sa_nil))) (sg_name 10 hc.nd)
      (sss_one (ss_if (st_cmp (opA_notIn hu65) (se_var 9) (se_var 6))
      (sss_cons (ss_asg (ws := []) (se_bl) (sg_sub (stA hu1) (se_var 6) (se_var 9)))
      (sss_cons (ss_exp (se_bm PySem.F.plainAttrs_list PySem.F.slot_list_append PySem.F.type_list_append ma_append (fun _ _ _ _ _ => isL_ty) (se_var 8) (sa_cons (se_var 9) (sa_nil))))
      (sss_one (ss_asg (ws := [9]) (se_ix (ixA hu1) (se_var 1) (se_call h_law_other (hc.hr.mono (by decide)) rfl (sa_cons (se_var 9) (sa_nil)) (al_cons al_nil))) (sg_name 9 hc.nd)))))
      (sss_nil))))
      (sss_one (ss_exp (se_bm PySem.F.plainAttrs_list PySem.F.slot_list_append PySem.F.type_list_append ma_append (fun _ _ _ _ _ => isL_ty) (se_var 5) (sa_cons (se_ct ca_tuple T.b_tuple bb_tuple (sa_cons (se_var 8) (sa_nil))) (sa_nil))))))))
      (sss_nil))))
      (sss_one (ss_ret (se_var 5)))))))
abbrev s_law_rim_numbers : Stmt := topS 43
theorem sc_law_rim_numbers : FnScope ["rounds", "found", "number", "rim", "angle"] ["rounds"] (defScope s_law_rim_numbers) := ⟨rfl, rfl, rfl, by decide +kernel, rfl, by decide +kernel, by decide +kernel⟩
theorem ok_law_rim_numbers {f : Addr} {fd : FuncData} (T : Txt P w K mg base g) (h_law_rims : FnA P w K mg base g 2 "_law_rims" 1 f_law_rims) (F : Fun K "_law_rim_numbers" "_law_rim_numbers" s_law_rim_numbers f fd) : FnOk P w K mg base (L2.CX P w) 3 f fd ["rounds"] (spOf K g 1 f_law_rim_numbers) :=
  fn_okA F sc_law_rim_numbers rfl fun cdv A outer s H E hr => by
  have hc : CxA (cxOf (L2.CX P w) P w K mg base ["rounds", "found", "number", "rim", "angle"] "_law_rim_numbers" (defScope s_law_rim_numbers) f cdv A outer s H E) 2 := ⟨rfl, sc_law_rim_numbers.nd, passes_of rfl, hr⟩
  have hu1 := hu_of hr
  have hu65 := hu65_of hr
  exact sss_cons (ss_asg (ws := [1]) (se_dnew) (sg_name 1 hc.nd))
      (sss_cons (ss_for (ws := [2, 3]) hc.own hc.calm (si_enum T.b_enumerate (sa_cons (se_call h_law_rims (hc.hr.mono (by decide)) rfl (sa_cons (se_var 0) (sa_nil)) (al_cons al_nil)) (sa_nil))) (sg_tup hc.calm (sgs_cons (sg_name 2 hc.nd) (sgs_cons (sg_name 3 hc.nd) (sgs_nil))))
      (sss_one (ss_for (ws := [4]) hc.own hc.calm (si_e (se_var 3)) (sg_name 4 hc.nd)
      (sss_one (ss_asg (ws := []) (se_var 2) (sg_sub (stA hu1) (se_var 1) (se_var 4)))))))
      (sss_one (ss_ret (se_var 1))))
abbrev s_law_is_1 : Stmt := topS 44
theorem sc_law_is_1 : FnScope ["told", "due", "one", "two"] ["told", "due"] (defScope s_law_is_1) := ⟨rfl, rfl, rfl, by decide +kernel, rfl, by decide +kernel, by decide +kernel⟩
theorem ok_law_is_1 {f : Addr} {fd : FuncData} (T : Txt P w K mg base g) (h_law_is_0 : FnA P w K mg base g 1 "_law_is" 2 f_law_is_0) (F : Fun K "_law_is" "_law_is" s_law_is_1 f fd) : FnOk P w K mg base (L2.CX P w) 2 f fd ["told", "due"] (spOf K g 2 f_law_is_1) :=
  fn_okA F sc_law_is_1 rfl fun cdv A outer s H E hr => by
  have hc : CxA (cxOf (L2.CX P w) P w K mg base ["told", "due", "one", "two"] "_law_is" (defScope s_law_is_1) f cdv A outer s H E) 1 := ⟨rfl, sc_law_is_1.nd, passes_of rfl, hr⟩
  have hu1 := hu_of hr
  have hu65 := hu65_of hr
  exact sss_cons (ss_if (st_val (se_isi2 T.b_isinstance T.b_tuple T.b_list bb_tuple bb_list (se_var 1)))
      (sss_cons (ss_if (sw_st (sw_or (st_cmp (opA_ne hc.hr.units) (se_isi T.b_isinstance T.b_tuple bb_tuple (se_var 0)) (se_isi T.b_isinstance T.b_tuple bb_tuple (se_var 1))) (sw_or1 (st_not (st_val (se_isi2 T.b_isinstance T.b_tuple T.b_list bb_tuple bb_list (se_var 0)))))))
      (sss_one (ss_ret (se_bl)))
      (sss_nil))
      (sss_one (ss_ret (se_and (se_cmp (opA_eq hc.hr.units) (se_cb ca_len T.b_len bb_len (sa_cons (se_var 0) (sa_nil))) (se_cb ca_len T.b_len bb_len (sa_cons (se_var 1) (sa_nil)))) (se_one (se_cb (ca_all hc.calm) T.b_all bb_all (sa_cons (se_lc (own := [("one", 2), ("two", 3)]) hc.calm hc.nd (si_zip T.b_zip (sa_cons (se_var 0) (sa_cons (se_var 1) (sa_nil)))) (blkOk_by (N := ["told", "due", "one", "two"]) (sc := defScope s_law_is_1) (by decide +kernel)) rfl (fun _ _ _ _ _ => sg_tup hc.calm (sgs_cons (sg_name 2 hc.nd) (sgs_cons (sg_name 3 hc.nd) (sgs_nil)))) (fun _ _ _ _ _ => sts_nil) (fun _ _ _ _ _ => se_call h_law_is_0 (hc.hr.mono (by decide)) rfl (sa_cons (se_var 2) (sa_cons (se_var 3) (sa_nil))) (al_cons (al_cons al_nil)))) (sa_nil))))))))
      (sss_nil))
      (sss_one (ss_ret (se_and (se_cmp (opA_eq hc.hr.units) (se_isi T.b_isinstance T.b_bool bb_bool (se_var 0)) (se_isi T.b_isinstance T.b_bool bb_bool (se_var 1))) (se_one (se_cmp (opA_eq hc.hr.units) (se_var 0) (se_var 1))))))
abbrev s_law_is_2 : Stmt := topS 44
theorem sc_law_is_2 : FnScope ["told", "due", "one", "two"] ["told", "due"] (defScope s_law_is_2) := ⟨rfl, rfl, rfl, by decide +kernel, rfl, by decide +kernel, by decide +kernel⟩
theorem ok_law_is_2 {f : Addr} {fd : FuncData} (T : Txt P w K mg base g) (h_law_is_1 : FnA P w K mg base g 2 "_law_is" 2 f_law_is_1) (F : Fun K "_law_is" "_law_is" s_law_is_2 f fd) : FnOk P w K mg base (L2.CX P w) 3 f fd ["told", "due"] (spOf K g 2 f_law_is_2) :=
  fn_okA F sc_law_is_2 rfl fun cdv A outer s H E hr => by
  have hc : CxA (cxOf (L2.CX P w) P w K mg base ["told", "due", "one", "two"] "_law_is" (defScope s_law_is_2) f cdv A outer s H E) 2 := ⟨rfl, sc_law_is_2.nd, passes_of rfl, hr⟩
  have hu1 := hu_of hr
  have hu65 := hu65_of hr
  exact sss_cons (ss_if (st_val (se_isi2 T.b_isinstance T.b_tuple T.b_list bb_tuple bb_list (se_var 1)))
      (sss_cons (ss_if (sw_st (sw_or (st_cmp (opA_ne hc.hr.units) (se_isi T.b_isinstance T.b_tuple bb_tuple (se_var 0)) (se_isi T.b_isinstance T.b_tuple bb_tuple (se_var 1))) (sw_or1 (st_not (st_val (se_isi2 T.b_isinstance T.b_tuple T.b_list bb_tuple bb_list (se_var 0)))))))
      (sss_one (ss_ret (se_bl)))
      (sss_nil))
      (sss_one (ss_ret (se_and (se_cmp (opA_eq hc.hr.units) (se_cb ca_len T.b_len bb_len (sa_cons (se_var 0) (sa_nil))) (se_cb ca_len T.b_len bb_len (sa_cons (se_var 1) (sa_nil)))) (se_one (se_cb (ca_all hc.calm) T.b_all bb_all (sa_cons (se_lc (own := [("one", 2), ("two", 3)]) hc.calm hc.nd (si_zip T.b_zip (sa_cons (se_var 0) (sa_cons (se_var 1) (sa_nil)))) (blkOk_by (N := ["told", "due", "one", "two"]) (sc := defScope s_law_is_2) (by decide +kernel)) rfl (fun _ _ _ _ _ => sg_tup hc.calm (sgs_cons (sg_name 2 hc.nd) (sgs_cons (sg_name 3 hc.nd) (sgs_nil)))) (fun _ _ _ _ _ => sts_nil) (fun _ _ _ _ _ => se_call h_law_is_1 (hc.hr.mono (by decide)) rfl (sa_cons (se_var 2) (sa_cons (se_var 3) (sa_nil))) (al_cons (al_cons al_nil)))) (sa_nil))))))))
      (sss_nil))
      (sss_one (ss_ret (se_and (se_cmp (opA_eq hc.hr.units) (se_isi T.b_isinstance T.b_bool bb_bool (se_var 0)) (se_isi T.b_isinstance T.b_bool bb_bool (se_var 1))) (se_one (se_cmp (opA_eq hc.hr.units) (se_var 0) (se_var 1))))))
abbrev s_law_is_3 : Stmt := topS 44
theorem sc_law_is_3 : FnScope ["told", "due", "one", "two"] ["told", "due"] (defScope s_law_is_3) := ⟨rfl, rfl, rfl, by decide +kernel, rfl, by decide +kernel, by decide +kernel⟩
theorem ok_law_is_3 {f : Addr} {fd : FuncData} (T : Txt P w K mg base g) (h_law_is_2 : FnA P w K mg base g 3 "_law_is" 2 f_law_is_2) (F : Fun K "_law_is" "_law_is" s_law_is_3 f fd) : FnOk P w K mg base (L2.CX P w) 4 f fd ["told", "due"] (spOf K g 2 f_law_is_3) :=
  fn_okA F sc_law_is_3 rfl fun cdv A outer s H E hr => by
  have hc : CxA (cxOf (L2.CX P w) P w K mg base ["told", "due", "one", "two"] "_law_is" (defScope s_law_is_3) f cdv A outer s H E) 3 := ⟨rfl, sc_law_is_3.nd, passes_of rfl, hr⟩
  have hu1 := hu_of hr
  have hu65 := hu65_of hr
  exact sss_cons (ss_if (st_val (se_isi2 T.b_isinstance T.b_tuple T.b_list bb_tuple bb_list (se_var 1)))
      (sss_cons (ss_if (sw_st (sw_or (st_cmp (opA_ne hc.hr.units) (se_isi T.b_isinstance T.b_tuple bb_tuple (se_var 0)) (se_isi T.b_isinstance T.b_tuple bb_tuple (se_var 1))) (sw_or1 (st_not (st_val (se_isi2 T.b_isinstance T.b_tuple T.b_list bb_tuple bb_list (se_var 0)))))))
      (sss_one (ss_ret (se_bl)))
      (sss_nil))
      (sss_one (ss_ret (se_and (se_cmp (opA_eq hc.hr.units) (se_cb ca_len T.b_len bb_len (sa_cons (se_var 0) (sa_nil))) (se_cb ca_len T.b_len bb_len (sa_cons (se_var 1) (sa_nil)))) (se_one (se_cb (ca_all hc.calm) T.b_all bb_all (sa_cons (se_lc (own := [("one", 2), ("two", 3)]) hc.calm hc.nd (si_zip T.b_zip (sa_cons (se_var 0) (sa_cons (se_var 1) (sa_nil)))) (blkOk_by (N := ["told", "due", "one", "two"]) (sc := defScope s_law_is_3) (by decide +kernel)) rfl (fun _ _ _ _ _ => sg_tup hc.calm (sgs_cons (sg_name 2 hc.nd) (sgs_cons (sg_name 3 hc.nd) (sgs_nil)))) (fun _ _ _ _ _ => sts_nil) (fun _ _ _ _ _ => se_call h_law_is_2 (hc.hr.mono (by decide)) rfl (sa_cons (se_var 2) (sa_cons (se_var 3) (sa_nil))) (al_cons (al_cons al_nil)))) (sa_nil))))))))
      (sss_nil))
      (sss_one (ss_ret (se_and (se_cmp (opA_eq hc.hr.units) (se_isi T.b_isinstance T.b_bool bb_bool (se_var 0)) (se_isi T.b_isinstance T.b_bool bb_bool (se_var 1))) (se_one (se_cmp (opA_eq hc.hr.units) (se_var 0) (se_var 1))))))
abbrev s_law_is_4 : Stmt := topS 44
theorem sc_law_is_4 : FnScope ["told", "due", "one", "two"] ["told", "due"] (defScope s_law_is_4) := ⟨rfl, rfl, rfl, by decide +kernel, rfl, by decide +kernel, by decide +kernel⟩
theorem ok_law_is_4 {f : Addr} {fd : FuncData} (T : Txt P w K mg base g) (h_law_is_3 : FnA P w K mg base g 4 "_law_is" 2 f_law_is_3) (F : Fun K "_law_is" "_law_is" s_law_is_4 f fd) : FnOk P w K mg base (L2.CX P w) 5 f fd ["told", "due"] (spOf K g 2 f_law_is_4) :=
  fn_okA F sc_law_is_4 rfl fun cdv A outer s H E hr => by
  have hc : CxA (cxOf (L2.CX P w) P w K mg base ["told", "due", "one", "two"] "_law_is" (defScope s_law_is_4) f cdv A outer s H E) 4 := ⟨rfl, sc_law_is_4.nd, passes_of rfl, hr⟩
  have hu1 := hu_of hr
  have hu65 := hu65_of hr
  exact sss_cons (ss_if (st_val (se_isi2 T.b_isinstance T.b_tuple T.b_list bb_tuple bb_list (se_var 1)))
      (sss_cons (ss_if (sw_st (sw_or (st_cmp (opA_ne hc.hr.units) (se_isi T.b_isinstance T.b_tuple bb_tuple (se_var 0)) (se_isi T.b_isinstance T.b_tuple bb_tuple (se_var 1))) (sw_or1 (st_not (st_val (se_isi2 T.b_isinstance T.b_tuple T.b_list bb_tuple bb_list (se_var 0)))))))
      (sss_one (ss_ret (se_bl)))
      (sss_nil))
      (sss_one (ss_ret (se_and (se_cmp (opA_eq hc.hr.units) (se_cb ca_len T.b_len bb_len (sa_cons (se_var 0) (sa_nil))) (se_cb ca_len T.b_len bb_len (sa_cons (se_var 1) (sa_nil)))) (se_one (se_cb (ca_all hc.calm) T.b_all bb_all (sa_cons (se_lc (own := [("one", 2), ("two", 3)]) hc.calm hc.nd (si_zip T.b_zip (sa_cons (se_var 0) (sa_cons (se_var 1) (sa_nil)))) (blkOk_by (N := ["told", "due", "one", "two"]) (sc := defScope s_law_is_4) (by decide +kernel)) rfl (fun _ _ _ _ _ => sg_tup hc.calm (sgs_cons (sg_name 2 hc.nd) (sgs_cons (sg_name 3 hc.nd) (sgs_nil)))) (fun _ _ _ _ _ => sts_nil) (fun _ _ _ _ _ => se_call h_law_is_3 (hc.hr.mono (by decide)) rfl (sa_cons (se_var 2) (sa_cons (se_var 3) (sa_nil))) (al_cons (al_cons al_nil)))) (sa_nil))))))))
      (sss_nil))
      (sss_one (ss_ret (se_and (se_cmp (opA_eq hc.hr.units) (se_isi T.b_isinstance T.b_bool bb_bool (se_var 0)) (se_isi T.b_isinstance T.b_bool bb_bool (se_var 1))) (se_one (se_cmp (opA_eq hc.hr.units) (se_var 0) (se_var 1))))))
abbrev s_law_hand : Stmt := topS 45
theorem sc_law_hand : FnScope ["script", "cells", "cell"] ["script"] (defScope s_law_hand) := ⟨rfl, rfl, rfl, by decide +kernel, rfl, by decide +kernel, by decide +kernel⟩
theorem ok_law_hand {f : Addr} {fd : FuncData} (T : Txt P w K mg base g)  (F : Fun K "_law_hand" "_law_hand" s_law_hand f fd) : FnOk P w K mg base (L2.CX P w) 1 f fd ["script"] (spOf K g 1 f_law_hand) :=
  fn_okA F sc_law_hand rfl fun cdv A outer s H E hr => by
  have hc : CxA (cxOf (L2.CX P w) P w K mg base ["script", "cells", "cell"] "_law_hand" (defScope s_law_hand) f cdv A outer s H E) 0 := ⟨rfl, sc_law_hand.nd, passes_of rfl, hr⟩
  have hu1 := hu_of hr
  have hu65 := hu65_of hr
  exact sss_cons (ss_lc (i := 1) (own := [("cell", 2)]) hc.calm hc.nd (si_e (se_sl (se_var 0) (so_none) (so_some (se_int)))) (blkOk_by (N := ["script", "cells", "cell"]) (sc := defScope s_law_hand) (by decide +kernel)) rfl (fun _ _ _ _ _ => sg_name 2 hc.nd) (fun _ _ _ _ _ => sts_nil) (fun _ _ _ _ _ => se_cb ca_abs T.b_abs bb_abs (sa_cons (se_ct ca_int T.b_int bb_int (sa_cons (se_var 2) (sa_nil))) (sa_nil))))
      (sss_one (ss_ret (se_lst (sa_cons (se_var 1) (sa_cons (se_int) (sa_cons (se_int) (sa_cons (se_bin opA_add (se_int) (se_cb ca_len T.b_len bb_len (sa_cons (se_var 1) (sa_nil)))) (sa_cons (se_int) (sa_nil)))))))))
abbrev s_law_draw : Stmt := topS 46
theorem sc_law_draw : FnScope ["hand", "many", "cell", "digit", "number"] ["hand", "many"] (defScope s_law_draw) := ⟨rfl, rfl, rfl, by decide +kernel, rfl, by decide +kernel, by decide +kernel⟩
theorem ok_law_draw {f : Addr} {fd : FuncData} (T : Txt P w K mg base g)  (F : Fun K "_law_draw" "_law_draw" s_law_draw f fd) : FnOk P w K mg base (L2.CX P w) 1 f fd ["hand", "many"] (spOf K g 2 f_law_draw) :=
  fn_okA F sc_law_draw rfl fun cdv A outer s H E hr => by
  have hc : CxA (cxOf (L2.CX P w) P w K mg base ["hand", "many", "cell", "digit", "number"] "_law_draw" (defScope s_law_draw) f cdv A outer s H E) 0 := ⟨rfl, sc_law_draw.nd, passes_of rfl, hr⟩
  have hu1 := hu_of hr
  have hu65 := hu65_of hr
  exact sss_cons (ss_if (sw_st (sw_and (st_cmp (opA_eq hc.hr.units) (se_ix (ixA hu1) (se_var 0) (se_int)) (se_int)) (sw_and1 (st_cmp opA_lt (se_ix (ixA hu1) (se_var 0) (se_int)) (se_cb ca_len T.b_len bb_len (sa_cons (se_ix (ixA hu1) (se_var 0) (se_int)) (sa_nil)))))))
      (sss_cons (ss_asg (ws := [2]) (se_ix (ixA hu1) (se_ix (ixA hu1) (se_var 0) (se_int)) (se_ix (ixA hu1) (se_var 0) (se_int))) (sg_name 2 hc.nd))
      (sss_cons (ss_asg (ws := []) (se_bin opA_add (se_ix (ixA hu1) (se_var 0) (se_int)) (se_int)) (sg_sub (stA hu1) (se_var 0) (se_int)))
      (sss_cons (ss_asg (ws := []) (se_bin opA_mod (se_ct ca_int T.b_int bb_int (sa_cons (se_bin opA_add (se_bin opA_add (se_bin opA_mul (se_ix (ixA hu1) (se_var 0) (se_int)) (se_int)) (se_var 2)) (se_int)) (sa_nil))) (se_int)) (sg_sub (stA hu1) (se_var 0) (se_int)))
      (sss_one (ss_if (st_cmp opA_ge (se_var 2) (se_bin opA_pow (se_int) (se_int)))
      (sss_one (ss_asg (ws := []) (se_var 2) (sg_sub (stA hu1) (se_var 0) (se_int))))
      (sss_nil))))))
      (sss_nil))
      (sss_cons (ss_if (st_cmp opA_gt (se_ix (ixA hu1) (se_var 0) (se_int)) (se_int))
      (sss_cons (ss_asg (ws := [3]) (se_bin opA_mod (se_ct ca_int T.b_int bb_int (sa_cons (se_ix (ixA hu1) (se_var 0) (se_int)) (sa_nil))) (se_var 1)) (sg_name 3 hc.nd))
      (sss_cons (ss_asg (ws := []) (se_bin opA_fdiv (se_ix (ixA hu1) (se_var 0) (se_int)) (se_var 1)) (sg_sub (stA hu1) (se_var 0) (se_int)))
      (sss_one (ss_ret (se_var 3)))))
      (sss_nil))
      (sss_cons (ss_asg (ws := []) (se_bin opA_add (se_ix (ixA hu1) (se_var 0) (se_int)) (se_int)) (sg_sub (stA hu1) (se_var 0) (se_int)))
      (sss_cons (ss_asg (ws := [4]) (se_bin opA_mod (se_ct ca_int T.b_int bb_int (sa_cons (se_bin opA_mul (se_ct ca_int T.b_int bb_int (sa_cons (se_bin opA_add (se_ix (ixA hu1) (se_var 0) (se_int)) (se_bin opA_mul (se_int) (se_ix (ixA hu1) (se_var 0) (se_int)))) (sa_nil))) (se_int)) (sa_nil))) (se_int)) (sg_name 4 hc.nd))
      (sss_cons (ss_asg (ws := [4]) (se_bin opA_mod (se_ct ca_int T.b_int bb_int (sa_cons (se_bin opA_mul (se_var 4) (se_bin opA_add (se_bin opA_fdiv (se_var 4) (se_int)) (se_int))) (sa_nil))) (se_int)) (sg_name 4 hc.nd))
      (sss_cons (ss_asg (ws := [4]) (se_bin opA_mod (se_ct ca_int T.b_int bb_int (sa_cons (se_bin opA_mul (se_var 4) (se_bin opA_add (se_bin opA_fdiv (se_var 4) (se_int)) (se_int))) (sa_nil))) (se_int)) (sg_name 4 hc.nd))
      (sss_one (ss_ret (se_bin opA_mod (se_ct ca_int T.b_int bb_int (sa_cons (se_bin opA_fdiv (se_var 4) (se_int)) (sa_nil))) (se_var 1)))))))))
abbrev s_law_put_behind : Stmt := topS 47
theorem sc_law_put_behind : FnScope ["ends", "end", "other", "at"] ["ends", "end", "other"] (defScope s_law_put_behind) := ⟨rfl, rfl, rfl, by decide +kernel, rfl, by decide +kernel, by decide +kernel⟩
theorem ok_law_put_behind {f : Addr} {fd : FuncData} (T : Txt P w K mg base g)  (F : Fun K "_law_put_behind" "_law_put_behind" s_law_put_behind f fd) : FnOk P w K mg base (L2.CX P w) 1 f fd ["ends", "end", "other"] (spOf K g 3 f_law_put_behind) :=
  fn_okA F sc_law_put_behind rfl fun cdv A outer s H E hr => by
  have hc : CxA (cxOf (L2.CX P w) P w K mg base ["ends", "end", "other", "at"] "_law_put_behind" (defScope s_law_put_behind) f cdv A outer s H E) 0 := ⟨rfl, sc_law_put_behind.nd, passes_of rfl, hr⟩
  have hu1 := hu_of hr
  have hu65 := hu65_of hr
  exact sss_cons (ss_asg (ws := [3]) (se_bm PySem.F.plainAttrs_list PySem.F.slot_list_index PySem.F.type_list_index (ma_index hu65) (fun _ _ _ _ _ => isL_ty) (se_var 0) (sa_cons (se_var 1) (sa_nil))) (sg_name 3 hc.nd))
      (sss_one (ss_ret (se_bin opA_add (se_bin opA_add (se_sl (se_var 0) (so_none) (so_some (se_bin opA_add (se_var 3) (se_int)))) (se_lst (sa_cons (se_var 2) (sa_nil)))) (se_sl (se_var 0) (so_some (se_bin opA_add (se_var 3) (se_int))) (so_none)))))
abbrev s_law_straights : Stmt := topS 48
theorem sc_law_straights : FnScope ["ends", "at"] ["ends"] (defScope s_law_straights) := ⟨rfl, rfl, rfl, by decide +kernel, rfl, by decide +kernel, by decide +kernel⟩
theorem ok_law_straights {f : Addr} {fd : FuncData} (T : Txt P w K mg base g)  (F : Fun K "_law_straights" "_law_straights" s_law_straights f fd) : FnOk P w K mg base (L2.CX P w) 1 f fd ["ends"] (spOf K g 1 f_law_straights) :=
  fn_okA F sc_law_straights rfl fun cdv A outer s H E hr => by
  have hc : CxA (cxOf (L2.CX P w) P w K mg base ["ends", "at"] "_law_straights" (defScope s_law_straights) f cdv A outer s H E) 0 := ⟨rfl, sc_law_straights.nd, passes_of rfl, hr⟩
  have hu1 := hu_of hr
  have hu65 := hu65_of hr
  exact sss_one (ss_ret (se_cb ca_len T.b_len bb_len (sa_cons (se_lc (own := [("at", 1)]) hc.calm hc.nd (si_range1 T.b_range (sa_cons (se_cb ca_len T.b_len bb_len (sa_cons (se_var 0) (sa_nil))) (sa_nil))) (blkOk_by (N := ["ends", "at"]) (sc := defScope s_law_straights) (by decide +kernel)) rfl (fun _ _ _ _ _ => sg_name 1 hc.nd) (fun _ _ _ _ _ => sts_one (st_cmp (opA_ne hc.hr.units) (se_bin opA_mod (se_ct ca_int T.b_int bb_int (sa_cons (se_ix (ixA hu1) (se_var 0) (se_var 1)) (sa_nil))) (se_int)) (se_bin opA_mod (se_ct ca_int T.b_int bb_int (sa_cons (se_ix (ixA hu1) (se_var 0) (se_bin opA_sub (se_var 1) (se_int))) (sa_nil))) (se_int)))) (fun _ _ _ _ _ => se_var 1)) (sa_nil))))
abbrev s_law_hung : Stmt := topS 49
theorem sc_law_hung : FnScope ["hand", "arrows", "rounds", "is_tangled", "angle", "place", "first", "mine", "ends", "pair", "later"] ["hand", "arrows", "rounds", "is_tangled"] (defScope s_law_hung) := ⟨rfl, rfl, rfl, by decide +kernel, rfl, by decide +kernel, by decide +kernel⟩
theorem ok_law_hung {f : Addr} {fd : FuncData} (T : Txt P w K mg base g) (h_law_draw : FnA P w K mg base g 1 "_law_draw" 2 f_law_draw) (h_law_other : FnA P w K mg base g 1 "_law_other" 1 f_law_other) (h_law_put_behind : FnA P w K mg base g 1 "_law_put_behind" 3 f_law_put_behind) (h_law_straights : FnA P w K mg base g 1 "_law_straights" 1 f_law_straights) (F : Fun K "_law_hung" "_law_hung" s_law_hung f fd) : FnOk P w K mg base (L2.CX P w) 2 f fd ["hand", "arrows", "rounds", "is_tangled"] (spOf K g 4 f_law_hung) :=
  fn_okA F sc_law_hung rfl fun cdv A outer s H E hr => by
  have hc : CxA (cxOf (L2.CX P w) P w K mg base ["hand", "arrows", "rounds", "is_tangled", "angle", "place", "first", "mine", "ends", "pair", "later"] "_law_hung" (defScope s_law_hung) f cdv A outer s H E) 1 := ⟨rfl, sc_law_hung.nd, passes_of rfl, hr⟩
  have hu1 := hu_of hr
  have hu65 := hu65_of hr
  exact sss_cons (ss_asg (ws := [4]) (se_call h_law_draw (hc.hr.mono (by decide)) rfl (sa_cons (se_var 0) (sa_cons (se_bin opA_mul (se_int) (se_cb ca_len T.b_len bb_len (sa_cons (se_var 1) (sa_nil)))) (sa_nil))) (al_cons (al_cons al_nil))) (sg_name 4 hc.nd))
      (sss_cons (ss_asg (ws := [5]) (se_ix (ixA hu1) (se_ix (ixA hu1) (se_var 1) (se_bin opA_fdiv (se_var 4) (se_int))) (se_bin opA_mod (se_ct ca_int T.b_int bb_int (sa_cons (se_var 4) (sa_nil))) (se_int))) (sg_name 5 hc.nd))
      (sss_cons (ss_asg (ws := [6]) (se_bin opA_add (se_bin opA_mul (se_int) (se_cb ca_len T.b_len bb_len (sa_cons (se_var 1) (sa_nil)))) (se_call h_law_draw (hc.hr.mono (by decide)) rfl (sa_cons (se_var 0) (sa_cons (se_int) (sa_nil))) (al_cons (al_cons al_nil)))) (sg_name 6 hc.nd))
      (sss_cons (ss_for (ws := [7]) hc.own hc.calm (si_e (se_tup (sa_cons (se_var 6) (sa_cons (se_call h_law_other (hc.hr.mono (by decide)) rfl (sa_cons (se_var 6) (sa_nil)) (al_cons al_nil)) (sa_nil))))) (sg_name 7 hc.nd)
      (sss_cons (ss_asg (ws := [8]) (se_call h_law_put_behind (hc.hr.mono (by decide)) rfl (sa_cons (se_ix (ixA hu1) (se_var 2) (se_var 5)) (sa_cons (se_var 4) (sa_cons (se_var 7) (sa_nil)))) (al_cons (al_cons (al_cons al_nil)))) (sg_name 8 hc.nd))
      (sss_one (ss_if (sw_st (sw_or (st_val (se_var 3)) (sw_or1 (st_cmp opA_lt (se_call h_law_straights (hc.hr.mono (by decide)) rfl (sa_cons (se_var 8) (sa_nil)) (al_cons al_nil)) (se_int)))))
      (sss_cons (ss_asg (ws := [9]) (se_if (st_cmp (opA_eq hc.hr.units) (se_bin opA_mod (se_ct ca_int T.b_int bb_int (sa_cons (se_var 7) (sa_nil))) (se_int)) (se_int)) (se_tup (sa_cons (se_var 5) (sa_cons (se_cb ca_len T.b_len bb_len (sa_cons (se_var 2) (sa_nil))) (sa_nil)))) (se_tup (sa_cons (se_cb ca_len T.b_len bb_len (sa_cons (se_var 2) (sa_nil))) (sa_cons (se_var 5) (sa_nil))))) (sg_name 9 hc.nd))
      (sss_cons (ss_asg (ws := [10]) (se_bin opA_add (se_bin opA_add (se_bin opA_add (se_sl (se_var 2) (so_none) (so_some (se_var 5))) (se_lst (sa_cons (se_var 8) (sa_nil)))) (se_sl (se_var 2) (so_some (se_bin opA_add (se_var 5) (se_int))) (so_none))) (se_lst (sa_cons (se_lst (sa_cons (se_call h_law_other (hc.hr.mono (by decide)) rfl (sa_cons (se_var 7) (sa_nil)) (al_cons al_nil)) (sa_nil))) (sa_nil)))) (sg_name 10 hc.nd))
      (sss_one (ss_ret (se_tup (sa_cons (se_bin opA_add (se_var 1) (se_lst (sa_cons (se_var 9) (sa_nil)))) (sa_cons (se_var 10) (sa_nil))))))))
      (sss_nil)))))
      (sss_one (ss_ret (se_tup (sa_cons (se_var 1) (sa_cons (se_var 2) (sa_nil)))))))))
abbrev s_law_tied : Stmt := topS 50
theorem sc_law_tied : FnScope ["hand", "arrows", "rounds", "is_tangled", "some", "rim", "one", "other", "number", "angle", "there", "tail", "head", "later"] ["hand", "arrows", "rounds", "is_tangled"] (defScope s_law_tied) := ⟨rfl, rfl, rfl, by decide +kernel, rfl, by decide +kernel, by decide +kernel⟩
theorem ok_law_tied {f : Addr} {fd : FuncData} (T : Txt P w K mg base g) (h_law_draw : FnA P w K mg base g 1 "_law_draw" 2 f_law_draw) (h_law_put_behind : FnA P w K mg base g 1 "_law_put_behind" 3 f_law_put_behind) (h_law_rims : FnA P w K mg base g 2 "_law_rims" 1 f_law_rims) (h_law_straights : FnA P w K mg base g 1 "_law_straights" 1 f_law_straights) (F : Fun K "_law_tied" "_law_tied" s_law_tied f fd) : FnOk P w K mg base (L2.CX P w) 3 f fd ["hand", "arrows", "rounds", "is_tangled"] (spOf K g 4 f_law_tied) :=
  fn_okA F sc_law_tied rfl fun cdv A outer s H E hr => by
  have hc : CxA (cxOf (L2.CX P w) P w K mg base ["hand", "arrows", "rounds", "is_tangled", "some", "rim", "one", "other", "number", "angle", "there", "tail", "head", "later"] "_law_tied" (defScope s_law_tied) f cdv A outer s H E) 2 := ⟨rfl, sc_law_tied.nd, passes_of rfl, hr⟩
  have hu1 := hu_of hr
  have hu65 := hu65_of hr
  exact sss_cons (ss_asg (ws := [4]) (se_call h_law_rims (hc.hr.mono (by decide)) rfl (sa_cons (se_var 2) (sa_nil)) (al_cons al_nil)) (sg_name 4 hc.nd))
      (sss_cons (ss_asg (ws := [5]) (se_ix (ixA hu1) (se_var 4) (se_call h_law_draw (hc.hr.mono (by decide)) rfl (sa_cons (se_var 0) (sa_cons (se_cb ca_len T.b_len bb_len (sa_cons (se_var 4) (sa_nil))) (sa_nil))) (al_cons (al_cons al_nil)))) (sg_name 5 hc.nd))
      (sss_cons (ss_par2 hc.calm hc.nd rfl rfl (sa_cons (se_ix (ixA hu1) (se_var 5) (se_call h_law_draw (hc.hr.mono (by decide)) rfl (sa_cons (se_var 0) (sa_cons (se_cb ca_len T.b_len bb_len (sa_cons (se_var 5) (sa_nil))) (sa_nil))) (al_cons (al_cons al_nil)))) (sa_cons (se_ix (ixA hu1) (se_var 5) (se_call h_law_draw (hc.hr.mono (by decide)) rfl (sa_cons (se_var 0) (sa_cons (se_cb ca_len T.b_len bb_len (sa_cons (se_var 5) (sa_nil))) (sa_nil))) (al_cons (al_cons al_nil)))) (sa_nil))) (by decide) rfl rfl rfl)
      (sss_cons (ss_asg (ws := [8]) (se_bin opA_mul (se_int) (se_cb ca_len T.b_len bb_len (sa_cons (se_var 1) (sa_nil)))) (sg_name 8 hc.nd))
      (sss_cons (ss_for (ws := [9, 10]) hc.own hc.calm (si_e (se_tup (sa_cons (se_tup (sa_cons (se_var 6) (sa_cons (se_var 7) (sa_nil)))) (sa_cons (se_tup (sa_cons (se_var 7) (sa_cons (se_var 6) (sa_nil)))) (sa_nil))))) (sg_tup hc.calm (sgs_cons (sg_name 9 hc.nd) (sgs_cons (sg_name 10 hc.nd) (sgs_nil))))
      (sss_cons (ss_par2 hc.calm hc.nd rfl rfl (sa_cons (se_ix (ixA hu1) (se_ix (ixA hu1) (se_var 1) (se_bin opA_fdiv (se_var 9) (se_int))) (se_bin opA_mod (se_ct ca_int T.b_int bb_int (sa_cons (se_var 9) (sa_nil))) (se_int))) (sa_cons (se_ix (ixA hu1) (se_ix (ixA hu1) (se_var 1) (se_bin opA_fdiv (se_var 10) (se_int))) (se_bin opA_mod (se_ct ca_int T.b_int bb_int (sa_cons (se_var 10) (sa_nil))) (se_int))) (sa_nil))) (by decide) rfl rfl rfl)
      (sss_cons (ss_asg (ws := [13]) (se_ct (ca_list hc.calm) T.b_list bb_list (sa_cons (se_var 2) (sa_nil))) (sg_name 13 hc.nd))
      (sss_cons (ss_if (st_cmp (opA_eq hc.hr.units) (se_var 9) (se_var 10))
      (sss_one (ss_asg (ws := []) (se_call h_law_put_behind (hc.hr.mono (by decide)) rfl (sa_cons (se_call h_law_put_behind (hc.hr.mono (by decide)) rfl (sa_cons (se_ix (ixA hu1) (se_var 13) (se_var 11)) (sa_cons (se_var 9) (sa_cons (se_bin opA_add (se_var 8) (se_int)) (sa_nil)))) (al_cons (al_cons (al_cons al_nil)))) (sa_cons (se_var 9) (sa_cons (se_var 8) (sa_nil)))) (al_cons (al_cons (al_cons al_nil)))) (sg_sub (stA hu1) (se_var 13) (se_var 11))))
      (sss_cons (ss_asg (ws := []) (se_call h_law_put_behind (hc.hr.mono (by decide)) rfl (sa_cons (se_ix (ixA hu1) (se_var 13) (se_var 11)) (sa_cons (se_var 9) (sa_cons (se_var 8) (sa_nil)))) (al_cons (al_cons (al_cons al_nil)))) (sg_sub (stA hu1) (se_var 13) (se_var 11)))
      (sss_one (ss_asg (ws := []) (se_call h_law_put_behind (hc.hr.mono (by decide)) rfl (sa_cons (se_ix (ixA hu1) (se_var 13) (se_var 12)) (sa_cons (se_var 10) (sa_cons (se_bin opA_add (se_var 8) (se_int)) (sa_nil)))) (al_cons (al_cons (al_cons al_nil)))) (sg_sub (stA hu1) (se_var 13) (se_var 12))))))
      (sss_one (ss_if (sw_st (sw_or (st_val (se_var 3)) (sw_or1 (sw_st (sw_and (st_cmp opA_lt (se_call h_law_straights (hc.hr.mono (by decide)) rfl (sa_cons (se_ix (ixA hu1) (se_var 13) (se_var 11)) (sa_nil)) (al_cons al_nil)) (se_int)) (sw_and1 (st_cmp opA_lt (se_call h_law_straights (hc.hr.mono (by decide)) rfl (sa_cons (se_ix (ixA hu1) (se_var 13) (se_var 12)) (sa_nil)) (al_cons al_nil)) (se_int))))))))
      (sss_one (ss_ret (se_tup (sa_cons (se_bin opA_add (se_var 1) (se_lst (sa_cons (se_tup (sa_cons (se_var 11) (sa_cons (se_var 12) (sa_nil)))) (sa_nil)))) (sa_cons (se_var 13) (sa_nil))))))
      (sss_nil)))))))
      (sss_one (ss_ret (se_tup (sa_cons (se_var 1) (sa_cons (se_var 2) (sa_nil))))))))))
abbrev s_law_chart : Stmt := topS 51
theorem sc_law_chart : FnScope ["hand", "most", "is_tangled", "arrows", "rounds", "turn", "grow", "kind", "prices", "arrow", "dear", "outer", "ends"] ["hand", "most", "is_tangled"] (defScope s_law_chart) := ⟨rfl, rfl, rfl, by decide +kernel, rfl, by decide +kernel, by decide +kernel⟩
theorem ok_law_chart {f : Addr} {fd : FuncData} (T : Txt P w K mg base g) (h_law_draw : FnA P w K mg base g 1 "_law_draw" 2 f_law_draw) (h_law_hung : FnA P w K mg base g 2 "_law_hung" 4 f_law_hung) (h_law_tied : FnA P w K mg base g 3 "_law_tied" 4 f_law_tied) (F : Fun K "_law_chart" "_law_chart" s_law_chart f fd) : FnOk P w K mg base (L2.CX P w) 4 f fd ["hand", "most", "is_tangled"] (spOf K g 3 f_law_chart) :=
  fn_okA F sc_law_chart rfl fun cdv A outer s H E hr => by
  have hc : CxA (cxOf (L2.CX P w) P w K mg base ["hand", "most", "is_tangled", "arrows", "rounds", "turn", "grow", "kind", "prices", "arrow", "dear", "outer", "ends"] "_law_chart" (defScope s_law_chart) f cdv A outer s H E) 3 := ⟨rfl, sc_law_chart.nd, passes_of rfl, hr⟩
  have hu1 := hu_of hr
  have hu65 := hu65_of hr
  have hD : ∀ z n af, dp_law_chart z = some (n, af) → FnA P w K mg base g 3 z n af := by
    intro z n af h
    unfold dp_law_chart at h
    by_cases e : z = "_law_hung"
    · rw [if_pos e] at h; cases h; subst e; exact h_law_hung.mono (by decide)
    rw [if_neg e] at h; clear e
    by_cases e : z = "_law_tied"
    · rw [if_pos e] at h; cases h; subst e; exact h_law_tied.mono (by decide)
    rw [if_neg e] at h; clear e
    cases h
  exact sss_cons (ss_asg (ws := [3, 4]) (se_ix (ixA hu1) (se_lst (sa_cons (se_tup (sa_cons (se_lst (sa_cons (se_tup (sa_cons (se_int) (sa_cons (se_int) (sa_nil)))) (sa_nil))) (sa_cons (se_lst (sa_cons (se_lst (sa_cons (se_int) (sa_nil))) (sa_cons (se_lst (sa_cons (se_int) (sa_nil))) (sa_nil)))) (sa_nil)))) (sa_cons (se_tup (sa_cons (se_lst (sa_cons (se_tup (sa_cons (se_int) (sa_cons (se_int) (sa_nil)))) (sa_nil))) (sa_cons (se_lst (sa_cons (se_lst (sa_cons (se_int) (sa_nil))) (sa_cons (se_lst (sa_cons (se_int) (sa_nil))) (sa_nil)))) (sa_nil)))) (sa_cons (se_tup (sa_cons (se_lst (sa_cons (se_tup (sa_cons (se_int) (sa_cons (se_int) (sa_nil)))) (sa_nil))) (sa_cons (se_lst (sa_cons (se_lst (sa_cons (se_int) (sa_cons (se_int) (sa_nil)))) (sa_nil))) (sa_nil)))) (sa_nil))))) (se_call h_law_draw (hc.hr.mono (by decide)) rfl (sa_cons (se_var 0) (sa_cons (se_int) (sa_nil))) (al_cons (al_cons al_nil)))) (sg_tup hc.calm (sgs_cons (sg_name 3 hc.nd) (sgs_cons (sg_name 4 hc.nd) (sgs_nil)))))
      (sss_cons (ss_for (ws := [5]) hc.own hc.calm (si_range1 T.b_range (sa_cons (se_call h_law_draw (hc.hr.mono (by decide)) rfl (sa_cons (se_var 0) (sa_cons (se_var 1) (sa_nil))) (al_cons (al_cons al_nil))) (sa_nil))) (sg_name 5 hc.nd)
      (sss_cons (ss_asg (ws := [6]) (se_ix (ixA hu1) (se_lst (sa_cons (se_fn h_law_hung) (sa_cons (se_fn h_law_tied) (sa_cons (se_fn h_law_tied) (sa_nil))))) (se_call h_law_draw (hc.hr.mono (by decide)) rfl (sa_cons (se_var 0) (sa_cons (se_int) (sa_nil))) (al_cons (al_cons al_nil)))) (sg_name 6 hc.nd))
      (sss_one (ss_asg (ws := [3, 4]) (se_callV hD (hc.hr.mono (by decide)) (se_var 6) (sa_cons (se_var 0) (sa_cons (se_var 3) (sa_cons (se_var 4) (sa_cons (se_var 2) (sa_nil)))))) (sg_tup hc.calm (sgs_cons (sg_name 3 hc.nd) (sgs_cons (sg_name 4 hc.nd) (sgs_nil))))))))
      (sss_cons (ss_asg (ws := [7]) (se_call h_law_draw (hc.hr.mono (by decide)) rfl (sa_cons (se_var 0) (sa_cons (se_int) (sa_nil))) (al_cons (al_cons al_nil))) (sg_name 7 hc.nd))
      (sss_cons (ss_asg (ws := [8]) (se_lst (sa_nil)) (sg_name 8 hc.nd))
      (sss_cons (ss_for (ws := [9]) hc.own hc.calm (si_e (se_var 3)) (sg_name 9 hc.nd)
      (sss_cons (ss_asg (ws := [10]) (se_ix (ixA hu1) (se_lst (sa_cons (se_int) (sa_cons (se_bin opA_add (se_int) (se_call h_law_draw (hc.hr.mono (by decide)) rfl (sa_cons (se_var 0) (sa_cons (se_int) (sa_nil))) (al_cons (al_cons al_nil)))) (sa_cons (se_bin opA_add (se_int) (se_call h_law_draw (hc.hr.mono (by decide)) rfl (sa_cons (se_var 0) (sa_cons (se_int) (sa_nil))) (al_cons (al_cons al_nil)))) (sa_cons (se_bin opA_add (se_int) (se_call h_law_draw (hc.hr.mono (by decide)) rfl (sa_cons (se_var 0) (sa_cons (se_int) (sa_nil))) (al_cons (al_cons al_nil)))) (sa_nil)))))) (se_var 7)) (sg_name 10 hc.nd))
      (sss_one (ss_exp (se_bm PySem.F.plainAttrs_list PySem.F.slot_list_append PySem.F.type_list_append ma_append (fun _ _ _ _ _ => isL_ty) (se_var 8) (sa_cons (se_if (st_cmp (opA_eq hc.hr.units) (se_call h_law_draw (hc.hr.mono (by decide)) rfl (sa_cons (se_var 0) (sa_cons (se_int) (sa_nil))) (al_cons (al_cons al_nil))) (se_int)) (se_non) (se_var 10)) (sa_nil)))))))
      (sss_cons (ss_asg (ws := [11]) (se_call h_law_draw (hc.hr.mono (by decide)) rfl (sa_cons (se_var 0) (sa_cons (se_bin opA_mul (se_int) (se_cb ca_len T.b_len bb_len (sa_cons (se_var 3) (sa_nil)))) (sa_nil))) (al_cons (al_cons al_nil))) (sg_name 11 hc.nd))
      (sss_one (ss_ret (se_tup (sa_cons (se_cb ca_len T.b_len bb_len (sa_cons (se_var 4) (sa_nil))) (sa_cons (se_ct ca_tuple T.b_tuple bb_tuple (sa_cons (se_var 3) (sa_nil))) (sa_cons (se_ct ca_tuple T.b_tuple bb_tuple (sa_cons (se_lc (own := [("ends", 12)]) hc.calm hc.nd (si_e (se_var 4)) (blkOk_by (N := ["hand", "most", "is_tangled", "arrows", "rounds", "turn", "grow", "kind", "prices", "arrow", "dear", "outer", "ends"]) (sc := defScope s_law_chart) (by decide +kernel)) rfl (fun _ _ _ _ _ => sg_name 12 hc.nd) (fun _ _ _ _ _ => sts_nil) (fun _ _ _ _ _ => se_ct ca_tuple T.b_tuple bb_tuple (sa_cons (se_var 12) (sa_nil)))) (sa_nil))) (sa_cons (se_var 11) (sa_cons (se_ct ca_tuple T.b_tuple bb_tuple (sa_cons (se_var 8) (sa_nil))) (sa_nil))))))))))))))
abbrev s_law_made_chart : Stmt := topS 52
theorem sc_law_made_chart : FnScope ["parts"] ["parts"] (defScope s_law_made_chart) := ⟨rfl, rfl, rfl, by decide +kernel, rfl, by decide +kernel, by decide +kernel⟩
theorem ok_law_made_chart {f : Addr} {fd : FuncData} (T : Txt P w K mg base g) (mk_Chart : MkA P w K mg base g 5 "Chart" 6 f_Chart_init) (F : Fun K "_law_made_chart" "_law_made_chart" s_law_made_chart f fd) : FnOk P w K mg base (L2.CX P w) 7 f fd ["parts"] (spOf K g 1 f_law_made_chart) :=
  fn_okA F sc_law_made_chart rfl fun cdv A outer s H E hr => by
  have hc : CxA (cxOf (L2.CX P w) P w K mg base ["parts"] "_law_made_chart" (defScope s_law_made_chart) f cdv A outer s H E) 6 := ⟨rfl, sc_law_made_chart.nd, passes_of rfl, hr⟩
  have hu1 := hu_of hr
  have hu65 := hu65_of hr
  exact sss_one (ss_ret (se_mk mk_Chart (hc.hr.mono (by decide)) (sa_cons (se_ix (ixA hu1) (se_var 0) (se_int)) (sa_cons (se_ix (ixA hu1) (se_var 0) (se_int)) (sa_cons (se_ix (ixA hu1) (se_var 0) (se_int)) (sa_cons (se_ix (ixA hu1) (se_var 0) (se_int)) (sa_cons (se_ix (ixA hu1) (se_var 0) (se_int)) (sa_nil)))))) (al_cons (al_cons (al_cons (al_cons (al_cons al_nil)))))))
abbrev s_law_tips : Stmt := topS 53
theorem sc_law_tips : FnScope ["rounds", "place", "ends", "end"] ["rounds"] (defScope s_law_tips) := ⟨rfl, rfl, rfl, by decide +kernel, rfl, by decide +kernel, by decide +kernel⟩
theorem ok_law_tips {f : Addr} {fd : FuncData} (T : Txt P w K mg base g)  (F : Fun K "_law_tips" "_law_tips" s_law_tips f fd) : FnOk P w K mg base (L2.CX P w) 1 f fd ["rounds"] (spOf K g 1 f_law_tips) :=
  fn_okA F sc_law_tips rfl fun cdv A outer s H E hr => by
  have hc : CxA (cxOf (L2.CX P w) P w K mg base ["rounds", "place", "ends", "end"] "_law_tips" (defScope s_law_tips) f cdv A outer s H E) 0 := ⟨rfl, sc_law_tips.nd, passes_of rfl, hr⟩
  have hu1 := hu_of hr
  have hu65 := hu65_of hr
  exact sss_one (ss_ret (se_lc (own := [("place", 1), ("ends", 2)]) hc.calm hc.nd (si_enum T.b_enumerate (sa_cons (se_var 0) (sa_nil))) (blkOk_by (N := ["rounds", "place", "ends", "end"]) (sc := defScope s_law_tips) (by decide +kernel)) rfl (fun _ _ _ _ _ => sg_tup hc.calm (sgs_cons (sg_name 1 hc.nd) (sgs_cons (sg_name 2 hc.nd) (sgs_nil)))) (fun _ _ _ _ _ => sts_one (st_cmp (opA_eq hc.hr.units) (se_setLen hc.calm T.b_len T.b_set (se_lc (own := [("end", 3)]) hc.calm hc.nd (si_e (se_var 2)) (blkOk_any (N := ["rounds", "place", "ends", "end"]) (by decide +kernel)) rfl (fun _ _ _ _ _ => sg_name 3 hc.nd) (fun _ _ _ _ _ => sts_nil) (fun _ _ _ _ _ => se_bin opA_mod (se_ct ca_int T.b_int bb_int (sa_cons (se_var 3) (sa_nil))) (se_int)))) (se_int))) (fun _ _ _ _ _ => se_var 1)))
abbrev s_law_asks : Stmt := topS 54
theorem sc_law_asks : FnScope ["parts", "outer", "after", "found", "rim", "forks", "angle"] ["parts", "outer"] (defScope s_law_asks) := ⟨rfl, rfl, rfl, by decide +kernel, rfl, by decide +kernel, by decide +kernel⟩
theorem ok_law_asks {f : Addr} {fd : FuncData} (T : Txt P w K mg base g) (h_law_after : FnA P w K mg base g 1 "_law_after" 1 f_law_after) (h_law_rims : FnA P w K mg base g 2 "_law_rims" 1 f_law_rims) (F : Fun K "_law_asks" "_law_asks" s_law_asks f fd) : FnOk P w K mg base (L2.CX P w) 3 f fd ["parts", "outer"] (spOf K g 2 f_law_asks) :=
  fn_okA F sc_law_asks rfl fun cdv A outer s H E hr => by
  have hc : CxA (cxOf (L2.CX P w) P w K mg base ["parts", "outer", "after", "found", "rim", "forks", "angle"] "_law_asks" (defScope s_law_asks) f cdv A outer s H E) 2 := ⟨rfl, sc_law_asks.nd, passes_of rfl, hr⟩
  have hu1 := hu_of hr
  have hu65 := hu65_of hr
  exact sss_cons (ss_asg (ws := [2]) (se_call h_law_after (hc.hr.mono (by decide)) rfl (sa_cons (se_ix (ixA hu1) (se_var 0) (se_int)) (sa_nil)) (al_cons al_nil)) (sg_name 2 hc.nd))
      (sss_cons (ss_asg (ws := [3]) (se_lst (sa_nil)) (sg_name 3 hc.nd))
      (sss_cons (ss_for (ws := [4]) hc.own hc.calm (si_e (se_call h_law_rims (hc.hr.mono (by decide)) rfl (sa_cons (se_ix (ixA hu1) (se_var 0) (se_int)) (sa_nil)) (al_cons al_nil))) (sg_name 4 hc.nd)
      (sss_cons (ss_asg (ws := [5]) (se_cb ca_len T.b_len bb_len (sa_cons (se_lc (own := [("angle", 6)]) hc.calm hc.nd (si_e (se_var 4)) (blkOk_by (N := ["parts", "outer", "after", "found", "rim", "forks", "angle"]) (sc := defScope s_law_asks) (by decide +kernel)) rfl (fun _ _ _ _ _ => sg_name 6 hc.nd) (fun _ _ _ _ _ => sts_one (sw_st (sw_and (st_cmp (opA_eq hc.hr.units) (se_bin opA_mod (se_ct ca_int T.b_int bb_int (sa_cons (se_var 6) (sa_nil))) (se_int)) (se_int)) (sw_and1 (st_cmp (opA_eq hc.hr.units) (se_bin opA_mod (se_ct ca_int T.b_int bb_int (sa_cons (se_ix (ixA hu1) (se_var 2) (se_var 6)) (sa_nil))) (se_int)) (se_int)))))) (fun _ _ _ _ _ => se_var 6)) (sa_nil))) (sg_name 5 hc.nd))
      (sss_one (ss_exp (se_bm PySem.F.plainAttrs_list PySem.F.slot_list_append PySem.F.type_list_append ma_append (fun _ _ _ _ _ => isL_ty) (se_var 3) (sa_cons (se_if (st_cmp (opA_in hu65) (se_var 1) (se_var 4)) (se_bin opA_add (se_var 5) (se_int)) (se_bin opA_sub (se_var 5) (se_int))) (sa_nil)))))))
      (sss_one (ss_ret (se_var 3)))))
abbrev s_law_tangled : Stmt := topS 55
theorem sc_law_tangled : FnScope ["rounds", "some", "place", "ends"] ["rounds"] (defScope s_law_tangled) := ⟨rfl, rfl, rfl, by decide +kernel, rfl, by decide +kernel, by decide +kernel⟩
theorem ok_law_tangled {f : Addr} {fd : FuncData} (T : Txt P w K mg base g) (h_law_straights : FnA P w K mg base g 1 "_law_straights" 1 f_law_straights) (F : Fun K "_law_tangled" "_law_tangled" s_law_tangled f fd) : FnOk P w K mg base (L2.CX P w) 2 f fd ["rounds"] (spOf K g 1 f_law_tangled) :=
  fn_okA F sc_law_tangled rfl fun cdv A outer s H E hr => by
  have hc : CxA (cxOf (L2.CX P w) P w K mg base ["rounds", "some", "place", "ends"] "_law_tangled" (defScope s_law_tangled) f cdv A outer s H E) 1 := ⟨rfl, sc_law_tangled.nd, passes_of rfl, hr⟩
  have hu1 := hu_of hr
  have hu65 := hu65_of hr
  exact sss_cons (ss_lc (i := 1) (own := [("place", 2), ("ends", 3)]) hc.calm hc.nd (si_enum T.b_enumerate (sa_cons (se_var 0) (sa_nil))) (blkOk_by (N := ["rounds", "some", "place", "ends"]) (sc := defScope s_law_tangled) (by decide +kernel)) rfl (fun _ _ _ _ _ => sg_tup hc.calm (sgs_cons (sg_name 2 hc.nd) (sgs_cons (sg_name 3 hc.nd) (sgs_nil)))) (fun _ _ _ _ _ => sts_one (st_cmp opA_gt (se_call h_law_straights (hc.hr.mono (by decide)) rfl (sa_cons (se_var 3) (sa_nil)) (al_cons al_nil)) (se_int))) (fun _ _ _ _ _ => se_var 2))
      (sss_one (ss_ret (se_if (st_cmp opA_gt (se_cb ca_len T.b_len bb_len (sa_cons (se_var 1) (sa_nil))) (se_int)) (se_ix (ixA hu1) (se_var 1) (se_int)) (se_non))))
abbrev s_law_word : Stmt := topS 56
theorem sc_law_word : FnScope ["after", "angle"] ["after", "angle"] (defScope s_law_word) := ⟨rfl, rfl, rfl, by decide +kernel, rfl, by decide +kernel, by decide +kernel⟩
theorem ok_law_word {f : Addr} {fd : FuncData} (T : Txt P w K mg base g) (h_law_is_straight : FnA P w K mg base g 1 "_law_is_straight" 2 f_law_is_straight) (F : Fun K "_law_word" "_law_word" s_law_word f fd) : FnOk P w K mg base (L2.CX P w) 2 f fd ["after", "angle"] (spOf K g 2 f_law_word) :=
  fn_okA F sc_law_word rfl fun cdv A outer s H E hr => by
  have hc : CxA (cxOf (L2.CX P w) P w K mg base ["after", "angle"] "_law_word" (defScope s_law_word) f cdv A outer s H E) 1 := ⟨rfl, sc_law_word.nd, passes_of rfl, hr⟩
  have hu1 := hu_of hr
  have hu65 := hu65_of hr
  exact sss_cons (ss_if (st_val (se_call h_law_is_straight (hc.hr.mono (by decide)) rfl (sa_cons (se_var 0) (sa_cons (se_var 1) (sa_nil))) (al_cons (al_cons al_nil))))
      (sss_one (ss_ret (se_str)))
      (sss_nil))
      (sss_one (ss_ret (se_ix (ixA hu1) (se_lst (sa_cons (se_str) (sa_cons (se_str) (sa_nil)))) (se_bin opA_mod (se_ct ca_int T.b_int bb_int (sa_cons (se_var 1) (sa_nil))) (se_int)))))
abbrev s_law_angles_right : Stmt := topS 57
theorem sc_law_angles_right : FnScope ["parts", "chart", "due", "after", "numbers", "angle", "arrow", "rim", "words_v"] ["parts", "chart", "due"] (defScope s_law_angles_right) := ⟨rfl, rfl, rfl, by decide +kernel, rfl, by decide +kernel, by decide +kernel⟩
theorem ok_law_angles_right {f : Addr} {fd : FuncData} (T : Txt P w K mg base g) (h_law_after : FnA P w K mg base g 1 "_law_after" 1 f_law_after) (h_law_is_4 : FnA P w K mg base g 5 "_law_is" 2 f_law_is_4) (h_law_rim_numbers : FnA P w K mg base g 3 "_law_rim_numbers" 1 f_law_rim_numbers) (h_law_word : FnA P w K mg base g 2 "_law_word" 2 f_law_word) (h_rim_of : FnA P w K mg base g 6 "rim_of" 2 f_rim_of) (h_sides : FnA P w K mg base g 6 "sides" 2 f_sides) (h_word_at : FnA P w K mg base g 4 "word_at" 2 f_word_at) (F : Fun K "_law_angles_right" "_law_angles_right" s_law_angles_right f fd) : FnOk P w K mg base (L2.CX P w) 7 f fd ["parts", "chart", "due"] (spOf K g 3 f_law_angles_right) :=
  fn_okA F sc_law_angles_right rfl fun cdv A outer s H E hr => by
  have hc : CxA (cxOf (L2.CX P w) P w K mg base ["parts", "chart", "due", "after", "numbers", "angle", "arrow", "rim", "words_v"] "_law_angles_right" (defScope s_law_angles_right) f cdv A outer s H E) 6 := ⟨rfl, sc_law_angles_right.nd, passes_of rfl, hr⟩
  have hu1 := hu_of hr
  have hu65 := hu65_of hr
  exact sss_cons (ss_asg (ws := [3]) (se_call h_law_after (hc.hr.mono (by decide)) rfl (sa_cons (se_ix (ixA hu1) (se_var 0) (se_int)) (sa_nil)) (al_cons al_nil)) (sg_name 3 hc.nd))
      (sss_cons (ss_asg (ws := [4]) (se_call h_law_rim_numbers (hc.hr.mono (by decide)) rfl (sa_cons (se_ix (ixA hu1) (se_var 0) (se_int)) (sa_nil)) (al_cons al_nil)) (sg_name 4 hc.nd))
      (sss_cons (ss_for (ws := [5]) hc.own hc.calm (si_range1 T.b_range (sa_cons (se_bin opA_mul (se_int) (se_cb ca_len T.b_len bb_len (sa_cons (se_ix (ixA hu1) (se_var 0) (se_int)) (sa_nil)))) (sa_nil))) (sg_name 5 hc.nd)
      (sss_one (ss_if (st_not (st_val (se_call h_law_is_4 (hc.hr.mono (by decide)) rfl (sa_cons (se_lst (sa_cons (se_call h_rim_of (hc.hr.mono (by decide)) rfl (sa_cons (se_var 1) (sa_cons (se_var 5) (sa_nil))) (al_cons (al_cons al_nil))) (sa_cons (se_call h_word_at (hc.hr.mono (by decide)) rfl (sa_cons (se_var 1) (sa_cons (se_var 5) (sa_nil))) (al_cons (al_cons al_nil))) (sa_nil)))) (sa_cons (se_lst (sa_cons (se_ix (ixA hu1) (se_var 4) (se_var 5)) (sa_cons (se_call h_law_word (hc.hr.mono (by decide)) rfl (sa_cons (se_var 3) (sa_cons (se_var 5) (sa_nil))) (al_cons (al_cons al_nil))) (sa_nil)))) (sa_nil))) (al_cons (al_cons al_nil)))))
      (sss_one (ss_ret (se_bl)))
      (sss_nil))))
      (sss_cons (ss_for (ws := [6]) hc.own hc.calm (si_range1 T.b_range (sa_cons (se_cb ca_len T.b_len bb_len (sa_cons (se_ix (ixA hu1) (se_var 0) (se_int)) (sa_nil))) (sa_nil))) (sg_name 6 hc.nd)
      (sss_one (ss_if (st_not (st_val (se_call h_law_is_4 (hc.hr.mono (by decide)) rfl (sa_cons (se_call h_sides (hc.hr.mono (by decide)) rfl (sa_cons (se_var 1) (sa_cons (se_var 6) (sa_nil))) (al_cons (al_cons al_nil))) (sa_cons (se_tup (sa_cons (se_ix (ixA hu1) (se_var 4) (se_bin opA_add (se_bin opA_mul (se_int) (se_var 6)) (se_int))) (sa_cons (se_ix (ixA hu1) (se_var 4) (se_bin opA_mul (se_int) (se_var 6))) (sa_nil)))) (sa_nil))) (al_cons (al_cons al_nil)))))
      (sss_one (ss_ret (se_bl)))
      (sss_nil))))
      (sss_cons (ss_for (ws := [7]) hc.own hc.calm (si_e (se_var 2)) (sg_name 7 hc.nd)
      (sss_cons (ss_lc (i := 8) (own := [("angle", 5)]) hc.calm hc.nd (si_e (se_var 7)) (blkOk_by (N := ["parts", "chart", "due", "after", "numbers", "angle", "arrow", "rim", "words_v"]) (sc := defScope s_law_angles_right) (by decide +kernel)) rfl (fun _ _ _ _ _ => sg_name 5 hc.nd) (fun _ _ _ _ _ => sts_nil) (fun _ _ _ _ _ => se_call h_word_at (hc.hr.mono (by decide)) rfl (sa_cons (se_var 1) (sa_cons (se_var 5) (sa_nil))) (al_cons (al_cons al_nil))))
      (sss_one (ss_if (st_cmp (opA_ne hc.hr.units) (se_bm PySem.F.plainAttrs_list PySem.F.slot_list_count PySem.F.type_list_count (ma_count hu65) (fun _ _ _ _ _ => isL_ty) (se_var 8) (sa_cons (se_str) (sa_nil))) (se_bm PySem.F.plainAttrs_list PySem.F.slot_list_count PySem.F.type_list_count (ma_count hu65) (fun _ _ _ _ _ => isL_ty) (se_var 8) (sa_cons (se_str) (sa_nil))))
      (sss_one (ss_ret (se_bl)))
      (sss_nil)))))
      (sss_one (ss_ret (se_bl)))))))
abbrev s_law : Stmt := topS 58
theorem sc_law : FnScope ["script", "hand", "turn", "parts", "chart", "due", "told", "lot", "wanted", "place"] ["script"] (defScope s_law) := ⟨rfl, rfl, rfl, by decide +kernel, rfl, by decide +kernel, by decide +kernel⟩
theorem ok_law {f : Addr} {fd : FuncData} (T : Txt P w K mg base g) (h_law_angles_right : FnA P w K mg base g 7 "_law_angles_right" 3 f_law_angles_right) (h_law_asks : FnA P w K mg base g 3 "_law_asks" 2 f_law_asks) (h_law_chart : FnA P w K mg base g 4 "_law_chart" 3 f_law_chart) (h_law_draw : FnA P w K mg base g 1 "_law_draw" 2 f_law_draw) (h_law_hand : FnA P w K mg base g 1 "_law_hand" 1 f_law_hand) (h_law_is_4 : FnA P w K mg base g 5 "_law_is" 2 f_law_is_4) (h_law_made_chart : FnA P w K mg base g 7 "_law_made_chart" 1 f_law_made_chart) (h_law_rims : FnA P w K mg base g 2 "_law_rims" 1 f_law_rims) (h_law_tangled : FnA P w K mg base g 2 "_law_tangled" 1 f_law_tangled) (h_law_tips : FnA P w K mg base g 1 "_law_tips" 1 f_law_tips) (h_asks : FnA P w K mg base g 5 "asks" 1 f_asks) (h_rims : FnA P w K mg base g 4 "rims" 1 f_rims) (h_tangled : FnA P w K mg base g 3 "tangled" 1 f_tangled) (h_tips : FnA P w K mg base g 3 "tips" 1 f_tips) (F : Fun K "law" "law" s_law f fd) : FnOk P w K mg base (L2.CX P w) 8 f fd ["script"] (spOf K g 1 f_law) :=
  fn_okA F sc_law rfl fun cdv A outer s H E hr => by
  have hc : CxA (cxOf (L2.CX P w) P w K mg base ["script", "hand", "turn", "parts", "chart", "due", "told", "lot", "wanted", "place"] "law" (defScope s_law) f cdv A outer s H E) 7 := ⟨rfl, sc_law.nd, passes_of rfl, hr⟩
  have hu1 := hu_of hr
  have hu65 := hu65_of hr
  exact sss_cons (ss_asg (ws := [1]) (se_call h_law_hand (hc.hr.mono (by decide)) rfl (sa_cons (se_var 0) (sa_nil)) (al_cons al_nil)) (sg_name 1 hc.nd))
      (sss_cons (ss_for (ws := [2]) hc.own hc.calm (si_range1 T.b_range (sa_cons (se_int) (sa_nil))) (sg_name 2 hc.nd)
      (sss_cons (ss_asg (ws := [3]) (se_call h_law_chart (hc.hr.mono (by decide)) rfl (sa_cons (se_var 1) (sa_cons (se_if (st_cmp (opA_eq hc.hr.units) (se_call h_law_draw (hc.hr.mono (by decide)) rfl (sa_cons (se_var 1) (sa_cons (se_int) (sa_nil))) (al_cons (al_cons al_nil))) (se_int)) (se_int) (se_int)) (sa_cons (se_cmp (opA_eq hc.hr.units) (se_call h_law_draw (hc.hr.mono (by decide)) rfl (sa_cons (se_var 1) (sa_cons (se_int) (sa_nil))) (al_cons (al_cons al_nil))) (se_int)) (sa_nil)))) (al_cons (al_cons (al_cons al_nil)))) (sg_name 3 hc.nd))
      (sss_cons (ss_asg (ws := [4]) (se_call h_law_made_chart (hc.hr.mono (by decide)) rfl (sa_cons (se_var 3) (sa_nil)) (al_cons al_nil)) (sg_name 4 hc.nd))
      (sss_cons (ss_asg (ws := [5]) (se_call h_law_rims (hc.hr.mono (by decide)) rfl (sa_cons (se_ix (ixA hu1) (se_var 3) (se_int)) (sa_nil)) (al_cons al_nil)) (sg_name 5 hc.nd))
      (sss_cons (ss_asg (ws := [6]) (se_call h_rims (hc.hr.mono (by decide)) rfl (sa_cons (se_var 4) (sa_nil)) (al_cons al_nil)) (sg_name 6 hc.nd))
      (sss_cons (ss_if (sw_st (sw_or (st_not (st_val (se_call h_law_is_4 (hc.hr.mono (by decide)) rfl (sa_cons (se_var 6) (sa_cons (se_var 5) (sa_nil))) (al_cons (al_cons al_nil))))) (sw_or1 (st_cmp (opA_ne hc.hr.units) (se_bin opA_add (se_ix (ixA hu1) (se_var 3) (se_int)) (se_cb ca_len T.b_len bb_len (sa_cons (se_var 5) (sa_nil)))) (se_bin opA_add (se_cb ca_len T.b_len bb_len (sa_cons (se_ix (ixA hu1) (se_var 3) (se_int)) (sa_nil))) (se_int))))))
      (sss_one (ss_ret (se_bl)))
      (sss_nil))
      (sss_cons (ss_exp (se_bm PySem.F.plainAttrs_list PySem.F.slot_list_append PySem.F.type_list_append ma_append (fun _ _ _ _ _ => isL_ty) (se_var 6) (sa_cons (se_tup (sa_nil)) (sa_nil))))
      (sss_cons (ss_if (sw_st (sw_or (st_not (st_val (se_call h_law_is_4 (hc.hr.mono (by decide)) rfl (sa_cons (se_call h_rims (hc.hr.mono (by decide)) rfl (sa_cons (se_var 4) (sa_nil)) (al_cons al_nil)) (sa_cons (se_var 5) (sa_nil))) (al_cons (al_cons al_nil))))) (sw_or1 (st_not (st_val (se_call h_law_angles_right (hc.hr.mono (by decide)) rfl (sa_cons (se_var 3) (sa_cons (se_var 4) (sa_cons (se_var 5) (sa_nil)))) (al_cons (al_cons (al_cons al_nil)))))))))
      (sss_one (ss_ret (se_bl)))
      (sss_nil))
      (sss_cons (ss_asg (ws := [7]) (se_ct ca_tuple T.b_tuple bb_tuple (sa_cons (se_call h_law_tips (hc.hr.mono (by decide)) rfl (sa_cons (se_ix (ixA hu1) (se_var 3) (se_int)) (sa_nil)) (al_cons al_nil)) (sa_nil))) (sg_name 7 hc.nd))
      (sss_cons (ss_asg (ws := [8]) (se_ct ca_tuple T.b_tuple bb_tuple (sa_cons (se_call h_law_asks (hc.hr.mono (by decide)) rfl (sa_cons (se_var 3) (sa_cons (se_ix (ixA hu1) (se_var 3) (se_int)) (sa_nil))) (al_cons (al_cons al_nil))) (sa_nil))) (sg_name 8 hc.nd))
      (sss_cons (ss_asg (ws := [9]) (se_call h_law_tangled (hc.hr.mono (by decide)) rfl (sa_cons (se_ix (ixA hu1) (se_var 3) (se_int)) (sa_nil)) (al_cons al_nil)) (sg_name 9 hc.nd))
      (sss_cons (ss_if (st_not (st_val (se_call h_law_is_4 (hc.hr.mono (by decide)) rfl (sa_cons (se_lst (sa_cons (se_call h_asks (hc.hr.mono (by decide)) rfl (sa_cons (se_var 4) (sa_nil)) (al_cons al_nil)) (sa_cons (se_call h_tips (hc.hr.mono (by decide)) rfl (sa_cons (se_var 4) (sa_nil)) (al_cons al_nil)) (sa_cons (se_call h_tangled (hc.hr.mono (by decide)) rfl (sa_cons (se_var 4) (sa_nil)) (al_cons al_nil)) (sa_nil))))) (sa_cons (se_lst (sa_cons (se_var 8) (sa_cons (se_var 7) (sa_cons (se_var 9) (sa_nil))))) (sa_nil))) (al_cons (al_cons al_nil)))))
      (sss_one (ss_ret (se_bl)))
      (sss_nil))
      (sss_one (ss_if (sw_st (sw_and (st_cmp opA_isN (se_var 9) (se_non)) (sw_and1 (st_cmp (opA_ne hc.hr.units) (se_cb (ca_sumB hc.calm) T.b_sum bb_sum (sa_cons (se_var 8) (sa_nil))) (se_cb ca_len T.b_len bb_len (sa_cons (se_var 7) (sa_nil)))))))
      (sss_one (ss_ret (se_bl)))
      (sss_nil)))))))))))))))
      (sss_one (ss_ret (se_bl))))
end
theorem all_mk {l : PySem.W.OpenLaw} {w : World} {K : PySem.W.Frag} {h : Heap} {mg : Str → Option Value} {fa : Addr} {t_MOST_PLACES : Tok} {t_MOST_ARROWS : Tok} {t_MOST_PRICE : Tok} (X : K.In h) (G : h.Ns mainGlobals mg) (hfa : mg "law" = some (.ref fa))
    (d_is_whole : DefIn K "is_whole" "is_whole" s_is_whole)
    (d_is_between : DefIn K "is_between" "is_between" s_is_between)
    (d_is_row : DefIn K "is_row" "is_row" s_is_row)
    (d_are_whole : DefIn K "are_whole" "are_whole" s_are_whole)
    (d_begun_least : DefIn K "begun_least" "begun_least" s_begun_least)
    (d_least_beside : DefIn K "least_beside" "least_beside" s_least_beside)
    (d_other_end : DefIn K "other_end" "other_end" s_other_end)
    (d_rim_from : DefIn K "rim_from" "rim_from" s_rim_from)
    (d_rims_between : DefIn K "rims_between" "rims_between" s_rims_between)
    (d_hang_together : DefIn K "hang_together" "hang_together" s_hang_together)
    (d_is_price : DefIn K "is_price" "is_price" s_is_price)
    (d_wrong_arrow : DefIn K "wrong_arrow" "wrong_arrow" s_wrong_arrow)
    (d_ends_by_place : DefIn K "ends_by_place" "ends_by_place" s_ends_by_place)
    (d_wrong_round : DefIn K "wrong_round" "wrong_round" s_wrong_round)
    (d_wrong_part : DefIn K "wrong_part" "wrong_part" s_wrong_part)
    (d_is_end : DefIn K "is_end" "is_end" s_is_end)
    (d_rims : DefIn K "rims" "rims" s_rims)
    (d_rim_numbers : DefIn K "rim_numbers" "rim_numbers" s_rim_numbers)
    (d_rim_of : DefIn K "rim_of" "rim_of" s_rim_of)
    (d_sides : DefIn K "sides" "sides" s_sides)
    (d_word_between : DefIn K "word_between" "word_between" s_word_between)
    (d_words : DefIn K "words" "words" s_words)
    (d_word_at : DefIn K "word_at" "word_at" s_word_at)
    (d_asks : DefIn K "asks" "asks" s_asks)
    (d_changes : DefIn K "changes" "changes" s_changes)
    (d_tips : DefIn K "tips" "tips" s_tips)
    (d_tangled : DefIn K "tangled" "tangled" s_tangled)
    (d_law_is_straight : DefIn K "_law_is_straight" "_law_is_straight" s_law_is_straight)
    (d_law_after : DefIn K "_law_after" "_law_after" s_law_after)
    (d_law_other : DefIn K "_law_other" "_law_other" s_law_other)
    (d_law_rims : DefIn K "_law_rims" "_law_rims" s_law_rims)
    (d_law_rim_numbers : DefIn K "_law_rim_numbers" "_law_rim_numbers" s_law_rim_numbers)
    (d_law_is_1 : DefIn K "_law_is" "_law_is" s_law_is_1)
    (d_law_hand : DefIn K "_law_hand" "_law_hand" s_law_hand)
    (d_law_draw : DefIn K "_law_draw" "_law_draw" s_law_draw)
    (d_law_put_behind : DefIn K "_law_put_behind" "_law_put_behind" s_law_put_behind)
    (d_law_straights : DefIn K "_law_straights" "_law_straights" s_law_straights)
    (d_law_hung : DefIn K "_law_hung" "_law_hung" s_law_hung)
    (d_law_tied : DefIn K "_law_tied" "_law_tied" s_law_tied)
    (d_law_chart : DefIn K "_law_chart" "_law_chart" s_law_chart)
    (d_law_made_chart : DefIn K "_law_made_chart" "_law_made_chart" s_law_made_chart)
    (d_law_tips : DefIn K "_law_tips" "_law_tips" s_law_tips)
    (d_law_asks : DefIn K "_law_asks" "_law_asks" s_law_asks)
    (d_law_tangled : DefIn K "_law_tangled" "_law_tangled" s_law_tangled)
    (d_law_word : DefIn K "_law_word" "_law_word" s_law_word)
    (d_law_angles_right : DefIn K "_law_angles_right" "_law_angles_right" s_law_angles_right)
    (d_law : DefIn K "law" "law" s_law)
    (c_Chart : ClsIn K "Chart" "Chart.__init__" s_Chart_init)
    (n_arrows : NoIn K "Chart" "arrows")
    (n_outer : NoIn K "Chart" "outer")
    (n_places : NoIn K "Chart" "places")
    (n_prices : NoIn K "Chart" "prices")
    (n_rounds : NoIn K "Chart" "rounds")
    (e_BadChart : ErrIn K "BadChart" "BadChart.__init__" (clsS 2 0))
    (en_BadChart : NoIn K "BadChart" "part")
    (e_NoArrow : ErrIn K "NoArrow" "NoArrow.__init__" (clsS 4 0))
    (e_NoEnd : ErrIn K "NoEnd" "NoEnd.__init__" (clsS 3 0))
    (b_abs : PySem.W.nsIn K mainGlobals "abs" = some none)
    (b_all : PySem.W.nsIn K mainGlobals "all" = some none)
    (b_bool : PySem.W.nsIn K mainGlobals "bool" = some none)
    (b_enumerate : PySem.W.nsIn K mainGlobals "enumerate" = some none)
    (b_int : PySem.W.nsIn K mainGlobals "int" = some none)
    (b_isinstance : PySem.W.nsIn K mainGlobals "isinstance" = some none)
    (b_len : PySem.W.nsIn K mainGlobals "len" = some none)
    (b_list : PySem.W.nsIn K mainGlobals "list" = some none)
    (b_min : PySem.W.nsIn K mainGlobals "min" = some none)
    (b_range : PySem.W.nsIn K mainGlobals "range" = some none)
    (b_set : PySem.W.nsIn K mainGlobals "set" = some none)
    (b_sorted : PySem.W.nsIn K mainGlobals "sorted" = some none)
    (b_sum : PySem.W.nsIn K mainGlobals "sum" = some none)
    (b_tuple : PySem.W.nsIn K mainGlobals "tuple" = some none)
    (b_zip : PySem.W.nsIn K mainGlobals "zip" = some none)
    (k_MOST_PLACES : PySem.W.nsIn K mainGlobals "MOST_PLACES" = some (some (.int 40 t_MOST_PLACES)))
    (k_MOST_ARROWS : PySem.W.nsIn K mainGlobals "MOST_ARROWS" = some (some (.int 80 t_MOST_ARROWS)))
    (k_MOST_PRICE : PySem.W.nsIn K mainGlobals "MOST_PRICE" = some (some (.int 1000 t_MOST_PRICE)))
    (hl : ∀ ns : List Int, ns.length ≤ 63 → ∃ m, f_law [.ref 0] [.rol (ns.map D.int)] = .ok (.bl true) m) :
    ∃ fd : FuncData, (∀ (s : Shared) (v : Value), BindsTo s fd ⟨[v], []⟩ [("script", v)]) ∧ ∀ base : Heap, K.In base → base.Ns mainGlobals mg → FnOk l.prog w K mg base (L2.CX l.prog w) 8 fa fd ["script"] (spL K) := by
  obtain ⟨fl, fdl, eL, FL⟩ := d_law.ex
  have e := hfa.symm.trans (PySem.W.mg_of X G eL)
  cases e
  refine ⟨fdl, fun s v => by have z := (bindsA FL s v (fun _ _ _ _ _ _ => rfl)); exact z, fun base _ _ => fn_law (g := gOf mg) ?_ hl⟩
  have T : Txt l.prog w K mg base (gOf mg) := {
    b_abs := PySem.W.mg_none_of X G b_abs,
    b_all := PySem.W.mg_none_of X G b_all,
    b_bool := PySem.W.mg_none_of X G b_bool,
    b_enumerate := PySem.W.mg_none_of X G b_enumerate,
    b_int := PySem.W.mg_none_of X G b_int,
    b_isinstance := PySem.W.mg_none_of X G b_isinstance,
    b_len := PySem.W.mg_none_of X G b_len,
    b_list := PySem.W.mg_none_of X G b_list,
    b_min := PySem.W.mg_none_of X G b_min,
    b_range := PySem.W.mg_none_of X G b_range,
    b_set := PySem.W.mg_none_of X G b_set,
    b_sorted := PySem.W.mg_none_of X G b_sorted,
    b_sum := PySem.W.mg_none_of X G b_sum,
    b_tuple := PySem.W.mg_none_of X G b_tuple,
    b_zip := PySem.W.mg_none_of X G b_zip,
    c_MOST_PLACES := ⟨_, PySem.W.mg_of X G k_MOST_PLACES⟩,
    c_MOST_ARROWS := ⟨_, PySem.W.mg_of X G k_MOST_ARROWS⟩,
    c_MOST_PRICE := ⟨_, PySem.W.mg_of X G k_MOST_PRICE⟩,
    cls_Chart := c_Chart.cls X G,
    nf_arrows := n_arrows.no X G,
    nf_outer := n_outer.no X G,
    nf_places := n_places.no X G,
    nf_prices := n_prices.no X G,
    nf_rounds := n_rounds.no X G,
    g_BadChart := e_BadChart.g X G,
    g_NoArrow := e_NoArrow.g X G,
    g_NoEnd := e_NoEnd.g X G,
    er_BadChart := e_BadChart.er1 X G en_BadChart (fun _ _ F => F.binds (ps := ["self", "part"]) fun _ _ _ _ _ _ us hl => match us, hl with | [_, _], _ => rfl) ⟨rfl, rfl, rfl, by decide +kernel, rfl, by decide +kernel, by decide +kernel⟩ (fun a cdv A outer s H E => pss_one (ps_ost (pv 0) (pv 1))),
    er_NoArrow := e_NoArrow.er0 X G (fun _ _ F => F.binds (ps := ["self"]) fun _ _ _ _ _ _ us hl => match us, hl with | [_], _ => rfl) ⟨rfl, rfl, rfl, by decide +kernel, rfl, by decide +kernel, by decide +kernel⟩ ⟨_, rfl⟩,
    er_NoEnd := e_NoEnd.er0 X G (fun _ _ F => F.binds (ps := ["self"]) fun _ _ _ _ _ _ us hl => match us, hl with | [_], _ => rfl) ⟨rfl, rfl, rfl, by decide +kernel, rfl, by decide +kernel, by decide +kernel⟩ ⟨_, rfl⟩ }
  have h_is_whole : FnA l.prog w K mg base (gOf mg) 1 "is_whole" 1 f_is_whole := fnA_of X G d_is_whole (fun _ _ F => F.binds (ps := ["thing"]) fun _ _ _ _ _ _ us hl => match us, hl with | [_], _ => rfl) fun f fd F => ok_is_whole T F
  have h_is_between : FnA l.prog w K mg base (gOf mg) 2 "is_between" 3 f_is_between := fnA_of X G d_is_between (fun _ _ F => F.binds (ps := ["thing", "low", "high"]) fun _ _ _ _ _ _ us hl => match us, hl with | [_, _, _], _ => rfl) fun f fd F => ok_is_between T h_is_whole F
  have h_is_row : FnA l.prog w K mg base (gOf mg) 1 "is_row" 2 f_is_row := fnA_of X G d_is_row (fun _ _ F => F.binds (ps := ["thing", "many"]) fun _ _ _ _ _ _ us hl => match us, hl with | [_, _], _ => rfl) fun f fd F => ok_is_row T F
  have h_are_whole : FnA l.prog w K mg base (gOf mg) 2 "are_whole" 1 f_are_whole := fnA_of X G d_are_whole (fun _ _ F => F.binds (ps := ["things"]) fun _ _ _ _ _ _ us hl => match us, hl with | [_], _ => rfl) fun f fd F => ok_are_whole T h_is_whole F
  have h_begun_least : FnA l.prog w K mg base (gOf mg) 1 "begun_least" 1 f_begun_least := fnA_of X G d_begun_least (fun _ _ F => F.binds (ps := ["row"]) fun _ _ _ _ _ _ us hl => match us, hl with | [_], _ => rfl) fun f fd F => ok_begun_least T F
  have h_least_beside : FnA l.prog w K mg base (gOf mg) 1 "least_beside" 2 f_least_beside := fnA_of X G d_least_beside (fun _ _ F => F.binds (ps := ["found", "angle"]) fun _ _ _ _ _ _ us hl => match us, hl with | [_, _], _ => rfl) fun f fd F => ok_least_beside T F
  have h_other_end : FnA l.prog w K mg base (gOf mg) 1 "other_end" 1 f_other_end := fnA_of X G d_other_end (fun _ _ F => F.binds (ps := ["end"]) fun _ _ _ _ _ _ us hl => match us, hl with | [_], _ => rfl) fun f fd F => ok_other_end T F
  have h_rim_from : FnA l.prog w K mg base (gOf mg) 2 "rim_from" 2 f_rim_from := fnA_of X G d_rim_from (fun _ _ F => F.binds (ps := ["before", "least"]) fun _ _ _ _ _ _ us hl => match us, hl with | [_, _], _ => rfl) fun f fd F => ok_rim_from T h_other_end F
  have h_rims_between : FnA l.prog w K mg base (gOf mg) 3 "rims_between" 1 f_rims_between := fnA_of X G d_rims_between (fun _ _ F => F.binds (ps := ["rounds"]) fun _ _ _ _ _ _ us hl => match us, hl with | [_], _ => rfl) fun f fd F => ok_rims_between T h_rim_from F
  have h_hang_together : FnA l.prog w K mg base (gOf mg) 1 "hang_together" 2 f_hang_together := fnA_of X G d_hang_together (fun _ _ F => F.binds (ps := ["places", "arrows"]) fun _ _ _ _ _ _ us hl => match us, hl with | [_, _], _ => rfl) fun f fd F => ok_hang_together T F
  have h_is_price : FnA l.prog w K mg base (gOf mg) 3 "is_price" 1 f_is_price := fnA_of X G d_is_price (fun _ _ F => F.binds (ps := ["thing"]) fun _ _ _ _ _ _ us hl => match us, hl with | [_], _ => rfl) fun f fd F => ok_is_price T h_is_between F
  have h_wrong_arrow : FnA l.prog w K mg base (gOf mg) 3 "wrong_arrow" 2 f_wrong_arrow := fnA_of X G d_wrong_arrow (fun _ _ F => F.binds (ps := ["places", "arrows"]) fun _ _ _ _ _ _ us hl => match us, hl with | [_, _], _ => rfl) fun f fd F => ok_wrong_arrow T h_is_between h_is_row F
  have h_ends_by_place : FnA l.prog w K mg base (gOf mg) 1 "ends_by_place" 2 f_ends_by_place := fnA_of X G d_ends_by_place (fun _ _ F => F.binds (ps := ["places", "arrows"]) fun _ _ _ _ _ _ us hl => match us, hl with | [_, _], _ => rfl) fun f fd F => ok_ends_by_place T F
  have h_wrong_round : FnA l.prog w K mg base (gOf mg) 3 "wrong_round" 3 f_wrong_round := fnA_of X G d_wrong_round (fun _ _ F => F.binds (ps := ["places", "arrows", "rounds"]) fun _ _ _ _ _ _ us hl => match us, hl with | [_, _, _], _ => rfl) fun f fd F => ok_wrong_round T h_are_whole h_ends_by_place h_is_row F
  have h_wrong_part : FnA l.prog w K mg base (gOf mg) 4 "wrong_part" 5 f_wrong_part := fnA_of X G d_wrong_part (fun _ _ F => F.binds (ps := ["places", "arrows", "rounds", "outer", "prices"]) fun _ _ _ _ _ _ us hl => match us, hl with | [_, _, _, _, _], _ => rfl) fun f fd F => ok_wrong_part T h_hang_together h_is_between h_is_price h_is_row h_rims_between h_wrong_arrow h_wrong_round F
  have mk_Chart : MkA l.prog w K mg base (gOf mg) 5 "Chart" 6 f_Chart_init := mkA_of X G c_Chart (fun _ _ F => F.binds (ps := ["self", "places", "arrows", "rounds", "outer", "prices"]) fun _ _ _ _ _ _ us hl => match us, hl with | [_, _, _, _, _, _], _ => rfl) fun f fd F => ok_Chart_init T h_begun_least h_least_beside h_rims_between h_wrong_part F
  have h_is_end : FnA l.prog w K mg base (gOf mg) 3 "is_end" 2 f_is_end := fnA_of X G d_is_end (fun _ _ F => F.binds (ps := ["chart", "thing"]) fun _ _ _ _ _ _ us hl => match us, hl with | [_, _], _ => rfl) fun f fd F => ok_is_end T h_is_between F
  have h_rims : FnA l.prog w K mg base (gOf mg) 4 "rims" 1 f_rims := fnA_of X G d_rims (fun _ _ F => F.binds (ps := ["chart"]) fun _ _ _ _ _ _ us hl => match us, hl with | [_], _ => rfl) fun f fd F => ok_rims T h_rims_between F
  have h_rim_numbers : FnA l.prog w K mg base (gOf mg) 5 "rim_numbers" 1 f_rim_numbers := fnA_of X G d_rim_numbers (fun _ _ F => F.binds (ps := ["chart"]) fun _ _ _ _ _ _ us hl => match us, hl with | [_], _ => rfl) fun f fd F => ok_rim_numbers T h_rims F
  have h_rim_of : FnA l.prog w K mg base (gOf mg) 6 "rim_of" 2 f_rim_of := fnA_of X G d_rim_of (fun _ _ F => F.binds (ps := ["chart", "angle"]) fun _ _ _ _ _ _ us hl => match us, hl with | [_, _], _ => rfl) fun f fd F => ok_rim_of T h_is_end h_rim_numbers F
  have h_sides : FnA l.prog w K mg base (gOf mg) 6 "sides" 2 f_sides := fnA_of X G d_sides (fun _ _ F => F.binds (ps := ["chart", "arrow"]) fun _ _ _ _ _ _ us hl => match us, hl with | [_, _], _ => rfl) fun f fd F => ok_sides T h_is_between h_rim_numbers F
  have h_word_between : FnA l.prog w K mg base (gOf mg) 1 "word_between" 2 f_word_between := fnA_of X G d_word_between (fun _ _ F => F.binds (ps := ["end", "behind"]) fun _ _ _ _ _ _ us hl => match us, hl with | [_, _], _ => rfl) fun f fd F => ok_word_between T F
  have h_words : FnA l.prog w K mg base (gOf mg) 2 "words" 1 f_words := fnA_of X G d_words (fun _ _ F => F.binds (ps := ["chart"]) fun _ _ _ _ _ _ us hl => match us, hl with | [_], _ => rfl) fun f fd F => ok_words T h_word_between F
  have h_word_at : FnA l.prog w K mg base (gOf mg) 4 "word_at" 2 f_word_at := fnA_of X G d_word_at (fun _ _ F => F.binds (ps := ["chart", "angle"]) fun _ _ _ _ _ _ us hl => match us, hl with | [_, _], _ => rfl) fun f fd F => ok_word_at T h_is_end h_words F
  have h_asks : FnA l.prog w K mg base (gOf mg) 5 "asks" 1 f_asks := fnA_of X G d_asks (fun _ _ F => F.binds (ps := ["chart"]) fun _ _ _ _ _ _ us hl => match us, hl with | [_], _ => rfl) fun f fd F => ok_asks T h_rims h_words F
  have h_changes : FnA l.prog w K mg base (gOf mg) 2 "changes" 1 f_changes := fnA_of X G d_changes (fun _ _ F => F.binds (ps := ["row"]) fun _ _ _ _ _ _ us hl => match us, hl with | [_], _ => rfl) fun f fd F => ok_changes T h_word_between F
  have h_tips : FnA l.prog w K mg base (gOf mg) 3 "tips" 1 f_tips := fnA_of X G d_tips (fun _ _ F => F.binds (ps := ["chart"]) fun _ _ _ _ _ _ us hl => match us, hl with | [_], _ => rfl) fun f fd F => ok_tips T h_changes F
  have h_tangled : FnA l.prog w K mg base (gOf mg) 3 "tangled" 1 f_tangled := fnA_of X G d_tangled (fun _ _ F => F.binds (ps := ["chart"]) fun _ _ _ _ _ _ us hl => match us, hl with | [_], _ => rfl) fun f fd F => ok_tangled T h_changes F
  have h_law_is_straight : FnA l.prog w K mg base (gOf mg) 1 "_law_is_straight" 2 f_law_is_straight := fnA_of X G d_law_is_straight (fun _ _ F => F.binds (ps := ["after", "angle"]) fun _ _ _ _ _ _ us hl => match us, hl with | [_, _], _ => rfl) fun f fd F => ok_law_is_straight T F
  have h_law_after : FnA l.prog w K mg base (gOf mg) 1 "_law_after" 1 f_law_after := fnA_of X G d_law_after (fun _ _ F => F.binds (ps := ["rounds"]) fun _ _ _ _ _ _ us hl => match us, hl with | [_], _ => rfl) fun f fd F => ok_law_after T F
  have h_law_other : FnA l.prog w K mg base (gOf mg) 1 "_law_other" 1 f_law_other := fnA_of X G d_law_other (fun _ _ F => F.binds (ps := ["end"]) fun _ _ _ _ _ _ us hl => match us, hl with | [_], _ => rfl) fun f fd F => ok_law_other T F
  have h_law_rims : FnA l.prog w K mg base (gOf mg) 2 "_law_rims" 1 f_law_rims := fnA_of X G d_law_rims (fun _ _ F => F.binds (ps := ["rounds"]) fun _ _ _ _ _ _ us hl => match us, hl with | [_], _ => rfl) fun f fd F => ok_law_rims T h_law_other F
  have h_law_rim_numbers : FnA l.prog w K mg base (gOf mg) 3 "_law_rim_numbers" 1 f_law_rim_numbers := fnA_of X G d_law_rim_numbers (fun _ _ F => F.binds (ps := ["rounds"]) fun _ _ _ _ _ _ us hl => match us, hl with | [_], _ => rfl) fun f fd F => ok_law_rim_numbers T h_law_rims F
  have h_law_is_0 : FnA l.prog w K mg base (gOf mg) 1 "_law_is" 2 f_law_is_0 := fnA_of X G d_law_is_1 (ps := ["told", "due"]) (fun _ _ F => F.binds (ps := ["told", "due"]) fun _ _ _ _ _ _ us hl => match us, hl with | [_, _], _ => rfl) fun f fd F => fn_none
  have h_law_is_1 : FnA l.prog w K mg base (gOf mg) 2 "_law_is" 2 f_law_is_1 := fnA_of X G d_law_is_1 (fun _ _ F => F.binds (ps := ["told", "due"]) fun _ _ _ _ _ _ us hl => match us, hl with | [_, _], _ => rfl) fun f fd F => ok_law_is_1 T h_law_is_0 F
  have h_law_is_2 : FnA l.prog w K mg base (gOf mg) 3 "_law_is" 2 f_law_is_2 := fnA_of X G d_law_is_1 (fun _ _ F => F.binds (ps := ["told", "due"]) fun _ _ _ _ _ _ us hl => match us, hl with | [_, _], _ => rfl) fun f fd F => ok_law_is_2 T h_law_is_1 F
  have h_law_is_3 : FnA l.prog w K mg base (gOf mg) 4 "_law_is" 2 f_law_is_3 := fnA_of X G d_law_is_1 (fun _ _ F => F.binds (ps := ["told", "due"]) fun _ _ _ _ _ _ us hl => match us, hl with | [_, _], _ => rfl) fun f fd F => ok_law_is_3 T h_law_is_2 F
  have h_law_is_4 : FnA l.prog w K mg base (gOf mg) 5 "_law_is" 2 f_law_is_4 := fnA_of X G d_law_is_1 (fun _ _ F => F.binds (ps := ["told", "due"]) fun _ _ _ _ _ _ us hl => match us, hl with | [_, _], _ => rfl) fun f fd F => ok_law_is_4 T h_law_is_3 F
  have h_law_hand : FnA l.prog w K mg base (gOf mg) 1 "_law_hand" 1 f_law_hand := fnA_of X G d_law_hand (fun _ _ F => F.binds (ps := ["script"]) fun _ _ _ _ _ _ us hl => match us, hl with | [_], _ => rfl) fun f fd F => ok_law_hand T F
  have h_law_draw : FnA l.prog w K mg base (gOf mg) 1 "_law_draw" 2 f_law_draw := fnA_of X G d_law_draw (fun _ _ F => F.binds (ps := ["hand", "many"]) fun _ _ _ _ _ _ us hl => match us, hl with | [_, _], _ => rfl) fun f fd F => ok_law_draw T F
  have h_law_put_behind : FnA l.prog w K mg base (gOf mg) 1 "_law_put_behind" 3 f_law_put_behind := fnA_of X G d_law_put_behind (fun _ _ F => F.binds (ps := ["ends", "end", "other"]) fun _ _ _ _ _ _ us hl => match us, hl with | [_, _, _], _ => rfl) fun f fd F => ok_law_put_behind T F
  have h_law_straights : FnA l.prog w K mg base (gOf mg) 1 "_law_straights" 1 f_law_straights := fnA_of X G d_law_straights (fun _ _ F => F.binds (ps := ["ends"]) fun _ _ _ _ _ _ us hl => match us, hl with | [_], _ => rfl) fun f fd F => ok_law_straights T F
  have h_law_hung : FnA l.prog w K mg base (gOf mg) 2 "_law_hung" 4 f_law_hung := fnA_of X G d_law_hung (fun _ _ F => F.binds (ps := ["hand", "arrows", "rounds", "is_tangled"]) fun _ _ _ _ _ _ us hl => match us, hl with | [_, _, _, _], _ => rfl) fun f fd F => ok_law_hung T h_law_draw h_law_other h_law_put_behind h_law_straights F
  have h_law_tied : FnA l.prog w K mg base (gOf mg) 3 "_law_tied" 4 f_law_tied := fnA_of X G d_law_tied (fun _ _ F => F.binds (ps := ["hand", "arrows", "rounds", "is_tangled"]) fun _ _ _ _ _ _ us hl => match us, hl with | [_, _, _, _], _ => rfl) fun f fd F => ok_law_tied T h_law_draw h_law_put_behind h_law_rims h_law_straights F
  have h_law_chart : FnA l.prog w K mg base (gOf mg) 4 "_law_chart" 3 f_law_chart := fnA_of X G d_law_chart (fun _ _ F => F.binds (ps := ["hand", "most", "is_tangled"]) fun _ _ _ _ _ _ us hl => match us, hl with | [_, _, _], _ => rfl) fun f fd F => ok_law_chart T h_law_draw h_law_hung h_law_tied F
  have h_law_made_chart : FnA l.prog w K mg base (gOf mg) 7 "_law_made_chart" 1 f_law_made_chart := fnA_of X G d_law_made_chart (fun _ _ F => F.binds (ps := ["parts"]) fun _ _ _ _ _ _ us hl => match us, hl with | [_], _ => rfl) fun f fd F => ok_law_made_chart T mk_Chart F
  have h_law_tips : FnA l.prog w K mg base (gOf mg) 1 "_law_tips" 1 f_law_tips := fnA_of X G d_law_tips (fun _ _ F => F.binds (ps := ["rounds"]) fun _ _ _ _ _ _ us hl => match us, hl with | [_], _ => rfl) fun f fd F => ok_law_tips T F
  have h_law_asks : FnA l.prog w K mg base (gOf mg) 3 "_law_asks" 2 f_law_asks := fnA_of X G d_law_asks (fun _ _ F => F.binds (ps := ["parts", "outer"]) fun _ _ _ _ _ _ us hl => match us, hl with | [_, _], _ => rfl) fun f fd F => ok_law_asks T h_law_after h_law_rims F
  have h_law_tangled : FnA l.prog w K mg base (gOf mg) 2 "_law_tangled" 1 f_law_tangled := fnA_of X G d_law_tangled (fun _ _ F => F.binds (ps := ["rounds"]) fun _ _ _ _ _ _ us hl => match us, hl with | [_], _ => rfl) fun f fd F => ok_law_tangled T h_law_straights F
  have h_law_word : FnA l.prog w K mg base (gOf mg) 2 "_law_word" 2 f_law_word := fnA_of X G d_law_word (fun _ _ F => F.binds (ps := ["after", "angle"]) fun _ _ _ _ _ _ us hl => match us, hl with | [_, _], _ => rfl) fun f fd F => ok_law_word T h_law_is_straight F
  have h_law_angles_right : FnA l.prog w K mg base (gOf mg) 7 "_law_angles_right" 3 f_law_angles_right := fnA_of X G d_law_angles_right (fun _ _ F => F.binds (ps := ["parts", "chart", "due"]) fun _ _ _ _ _ _ us hl => match us, hl with | [_, _, _], _ => rfl) fun f fd F => ok_law_angles_right T h_law_after h_law_is_4 h_law_rim_numbers h_law_word h_rim_of h_sides h_word_at F
  exact ok_law T h_law_angles_right h_law_asks h_law_chart h_law_draw h_law_hand h_law_is_4 h_law_made_chart h_law_rims h_law_tangled h_law_tips h_asks h_rims h_tangled h_tips FL
end Cl
set_option linter.all false
namespace Ch
/-! # Charts: rounds and rims as cycles -/
def pp : List Nat → List (Nat × Nat)
  | x :: y :: l => (x, y) :: pp (y :: l)
  | _ => []
def cy : List Nat → List (Nat × Nat)
  | [] => []
  | x :: l => pp (x :: (l ++ [x]))
theorem pp_cut : ∀ (s : List Nat) (e : Nat) (t : List Nat), pp (s ++ e :: t) = pp (s ++ [e]) ++ pp (e :: t)
  | [], e, t => by cases t <;> rfl
  | [x], e, t => by cases t <;> rfl
  | x :: y :: s, e, t => by
    have h := pp_cut (y :: s) e t
    show (x, y) :: pp (y :: s ++ e :: t) = (x, y) :: pp (y :: s ++ [e]) ++ pp (e :: t)
    rw [h]; rfl
theorem cy_cut (s : List Nat) (e : Nat) (t : List Nat) : ∀ p, p ∈ cy (s ++ e :: t) ↔ p ∈ cy (e :: (t ++ s)) := fun p => by
  cases s with
  | nil => simp
  | cons x s =>
    have h1 : cy (x :: s ++ e :: t) = pp (x :: s ++ [e]) ++ pp (e :: (t ++ [x])) := by
      show pp (x :: (s ++ e :: t ++ [x])) = _
      rw [show x :: (s ++ e :: t ++ [x]) = (x :: s) ++ e :: (t ++ [x]) by simp]
      exact pp_cut _ _ _
    have h2 : cy (e :: (t ++ x :: s)) = pp (e :: (t ++ [x])) ++ pp (x :: s ++ [e]) := by
      show pp (e :: (t ++ x :: s ++ [e])) = _
      rw [show e :: (t ++ x :: s ++ [e]) = (e :: t) ++ x :: (s ++ [e]) by simp]
      rw [pp_cut]; simp
    rw [h1, h2, List.mem_append, List.mem_append]
    exact Or.comm
theorem pp_mem : ∀ {l : List Nat} {x y : Nat}, (x, y) ∈ pp l → x ∈ l ∧ y ∈ l.tail
  | a :: b :: l, x, y, h => by
    unfold pp at h
    rcases List.mem_cons.mp h with h | h
    · cases h; exact ⟨List.mem_cons_self, List.mem_cons_self⟩
    · obtain ⟨h1, h2⟩ := pp_mem h
      exact ⟨List.mem_cons_of_mem _ h1, List.mem_cons_of_mem _ h2⟩
  | [a], x, y, h => by cases h
  | [], x, y, h => by cases h
theorem cy_mem {l : List Nat} {x y : Nat} (h : (x, y) ∈ cy l) : x ∈ l ∧ y ∈ l := by
  cases l with
  | nil => cases h
  | cons a l =>
    obtain ⟨h1, h2⟩ := pp_mem h
    simp only [List.mem_cons, List.mem_append, List.tail_cons, List.not_mem_nil, or_false] at h1 h2 ⊢
    exact ⟨by rcases h1 with h | h | h <;> simp [h], by rcases h2 with h | h <;> simp [h]⟩
theorem mem_cut {α : Type} {x : α} {l : List α} (h : x ∈ l) : ∃ s t, l = s ++ x :: t := List.append_of_mem h
/-- each end has a next one, just one -/
theorem cy_has {l : List Nat} {x : Nat} (h : x ∈ l) : ∃ y, (x, y) ∈ cy l := by
  obtain ⟨s, t, rfl⟩ := mem_cut h
  cases e : t ++ s with
  | nil => exact ⟨x, (cy_cut s x t _).mpr (by rw [e]; exact List.mem_cons_self)⟩
  | cons y r => exact ⟨y, (cy_cut s x t _).mpr (by rw [e]; exact List.mem_cons_self)⟩
theorem cy_fun {l : List Nat} (hn : l.Nodup) {x y z : Nat} (h1 : (x, y) ∈ cy l) (h2 : (x, z) ∈ cy l) : y = z := by
  obtain ⟨s, t, rfl⟩ := mem_cut (cy_mem h1).1
  rw [cy_cut] at h1 h2
  have hn' : (x :: (t ++ s)).Nodup := ((List.perm_append_comm (l₁ := s) (l₂ := x :: t)).nodup_iff.mp hn)
  have key : ∀ (r : List Nat) (y : Nat), (x :: r).Nodup → (x, y) ∈ cy (x :: r) → y = (r ++ [x]).head (by simp) := by
    intro r y hr h
    cases r with
    | nil => simp [cy, pp] at h; simpa using h
    | cons a r =>
      have h : (x, y) ∈ (x, a) :: pp (a :: (r ++ [x])) := h
      rcases List.mem_cons.mp h with h | h
      · cases h; rfl
      · exfalso
        have hx : x ∉ a :: r := (List.nodup_cons.mp hr).1
        -- x stands in pp only as a last one
        have aux : ∀ (l : List Nat) (u : Nat), x ∉ l → (x, u) ∉ pp (l ++ [x]) := by
          intro l
          induction l with
          | nil => intro u _ z; cases z
          | cons b l ih =>
            intro u hb z
            cases l with
            | nil =>
              have z : (x, u) ∈ [(b, x)] := z
              simp at z
              exact hb (by simp [z.1])
            | cons c l =>
              have z : (x, u) ∈ (b, c) :: pp (c :: l ++ [x]) := z
              rcases List.mem_cons.mp z with z | z
              · cases z; exact hb List.mem_cons_self
              · exact ih u (fun q => hb (List.mem_cons_of_mem _ q)) z
        exact aux (a :: r) y hx h
  rw [key _ _ hn' h1, key _ _ hn' h2]
theorem cy_inj {l : List Nat} (hn : l.Nodup) {x y z : Nat} (h1 : (x, z) ∈ cy l) (h2 : (y, z) ∈ cy l) : x = y := by
  obtain ⟨s, t, rfl⟩ := mem_cut (cy_mem h1).2
  rw [cy_cut] at h1 h2
  have hn' : (z :: (t ++ s)).Nodup := ((List.perm_append_comm (l₁ := s) (l₂ := z :: t)).nodup_iff.mp hn)
  have key : ∀ (r : List Nat) (a x : Nat), z ∉ r → (x, z) ∈ pp (a :: (r ++ [z])) → x = (a :: r).getLast (by simp) := by
    intro r
    induction r with
    | nil => intro a x hz h; simp [pp] at h; simp [h]
    | cons b r ih =>
      intro a x hz h
      have h : (x, z) ∈ (a, b) :: pp (b :: (r ++ [z])) := h
      rcases List.mem_cons.mp h with h | h
      · cases h; exact absurd List.mem_cons_self hz
      · rw [ih b x (fun q => hz (List.mem_cons_of_mem _ q)) h]; simp
  have hz := (List.nodup_cons.mp hn').1
  rw [key _ _ _ hz h1, key _ _ _ hz h2]

/-- x, and right behind it y, in one of the rounds -/
def P (rs : List (List Nat)) (x y : Nat) : Prop := ∃ r ∈ rs, (x, y) ∈ cy r
theorem flat_inj {rs : List (List Nat)} (hn : rs.flatten.Nodup) {r r' : List Nat} {x : Nat} (h : r ∈ rs) (h' : r' ∈ rs) (hx : x ∈ r) (hx' : x ∈ r') : r = r' := by
  induction rs with
  | nil => cases h
  | cons a rs ih =>
    rw [List.flatten_cons, List.nodup_append] at hn
    obtain ⟨n1, n2, n3⟩ := hn
    rcases List.mem_cons.mp h with e | k <;> rcases List.mem_cons.mp h' with e' | k'
    · rw [e, e']
    · subst e; exact absurd rfl (n3 x hx x (List.mem_flatten.mpr ⟨r', k', hx'⟩))
    · subst e'; exact absurd rfl (n3 x hx' x (List.mem_flatten.mpr ⟨r, k, hx⟩))
    · exact ih n2 k k'
theorem flat_nd {rs : List (List Nat)} (hn : rs.flatten.Nodup) {r : List Nat} (h : r ∈ rs) : r.Nodup := by
  induction rs with
  | nil => cases h
  | cons a rs ih =>
    rw [List.flatten_cons, List.nodup_append] at hn
    rcases List.mem_cons.mp h with rfl | h
    · exact hn.1
    · exact ih hn.2.1 h
theorem P_fun {rs : List (List Nat)} (hn : rs.flatten.Nodup) {x y z : Nat} (h1 : P rs x y) (h2 : P rs x z) : y = z := by
  obtain ⟨r, hr, h1⟩ := h1
  obtain ⟨r', hr', h2⟩ := h2
  have := flat_inj hn hr hr' (cy_mem h1).1 (cy_mem h2).1
  subst this
  exact cy_fun (flat_nd hn hr) h1 h2
theorem P_inj {rs : List (List Nat)} (hn : rs.flatten.Nodup) {x y z : Nat} (h1 : P rs x z) (h2 : P rs y z) : x = y := by
  obtain ⟨r, hr, h1⟩ := h1
  obtain ⟨r', hr', h2⟩ := h2
  have := flat_inj hn hr hr' (cy_mem h1).2 (cy_mem h2).2
  subst this
  exact cy_inj (flat_nd hn hr) h1 h2
theorem P_has {rs : List (List Nat)} {x : Nat} (h : x ∈ rs.flatten) : ∃ y, P rs x y := by
  obtain ⟨r, hr, hx⟩ := List.mem_flatten.mp h
  obtain ⟨y, hy⟩ := cy_has hx
  exact ⟨y, r, hr, hy⟩

/-! ### an end is put behind another one -/
def put (r : List Nat) (e m : Nat) : List Nat := r.take (r.idxOf e + 1) ++ m :: r.drop (r.idxOf e + 1)
theorem put_cut {s t : List Nat} {e m : Nat} (h : e ∉ s) : put (s ++ e :: t) e m = s ++ e :: m :: t := by
  unfold put
  have hi : (s ++ e :: t).idxOf e = s.length := by
    rw [List.idxOf_append]
    simp [h]
  rw [hi]
  have h1 : (s ++ e :: t).take (s.length + 1) = s ++ [e] := by
    rw [show s ++ e :: t = (s ++ [e]) ++ t by simp]
    exact List.take_left' (by simp)
  have h2 : (s ++ e :: t).drop (s.length + 1) = t := by
    rw [show s ++ e :: t = (s ++ [e]) ++ t by simp]
    exact List.drop_left' (by simp)
  rw [h1, h2]; simp
theorem cut_first {α : Type} [DecidableEq α] {x : α} : ∀ {l : List α}, x ∈ l → ∃ s t, l = s ++ x :: t ∧ x ∉ s
  | a :: l, h => by
    by_cases e : a = x
    · subst e; exact ⟨[], l, rfl, by simp⟩
    · obtain ⟨s, t, h1, h2⟩ := cut_first (l := l) (by rcases List.mem_cons.mp h with z | z; exact absurd z.symm e; exact z)
      exact ⟨a :: s, t, by rw [h1]; rfl, fun z => by rcases List.mem_cons.mp z with z | z; exact e z.symm; exact h2 z⟩
theorem put_perm {r : List Nat} {e m : Nat} : (put r e m).Perm (m :: r) := by
  unfold put
  have : (r.take (r.idxOf e + 1) ++ m :: r.drop (r.idxOf e + 1)).Perm (m :: (r.take (r.idxOf e + 1) ++ r.drop (r.idxOf e + 1))) := List.perm_middle
  rwa [List.take_append_drop] at this
theorem cy_put {r : List Nat} {e m : Nat} (he : e ∈ r) : (∀ x y, (x, y) ∈ cy r → x ≠ e → (x, y) ∈ cy (put r e m)) ∧ (e, m) ∈ cy (put r e m) ∧ ∀ h, r.Nodup → (e, h) ∈ cy r → (m, h) ∈ cy (put r e m) := by
  obtain ⟨s, t, rfl, hs⟩ := cut_first he
  rw [put_cut hs]
  have new : ∀ p, p ∈ cy (s ++ e :: m :: t) ↔ p = (e, m) ∨ p ∈ pp (m :: (t ++ s ++ [e])) := fun p => by
    rw [cy_cut]
    show p ∈ (e, m) :: pp (m :: (t ++ s ++ [e])) ↔ _
    rw [List.mem_cons]
  have old : ∀ p, p ∈ cy (s ++ e :: t) ↔ p ∈ pp (e :: (t ++ s ++ [e])) := fun p => by rw [cy_cut]; rfl
  refine ⟨fun x y h hx => ?_, (new _).mpr (.inl rfl), fun h hn hh => ?_⟩
  · rw [old] at h
    rw [new]
    right
    cases e1 : t ++ s ++ [e] with
    | nil => simp at e1
    | cons a l =>
      rw [e1] at h
      have h : (x, y) ∈ (e, a) :: pp (a :: l) := h
      rcases List.mem_cons.mp h with h | h
      · cases h; exact absurd rfl hx
      · exact List.mem_cons_of_mem _ h
  · have hh2 := hh
    rw [old] at hh2
    rw [new]
    right
    cases e1 : t ++ s ++ [e] with
    | nil => simp at e1
    | cons a l =>
      have : (e, a) ∈ cy (s ++ e :: t) := by rw [old, e1]; exact List.mem_cons_self
      rw [cy_fun hn hh this]
      exact List.mem_cons_self
end Ch
set_option linter.all false
namespace Ch
def o (e : Nat) : Nat := if e % 2 = 0 then e + 1 else e - 1
theorem o_o (e : Nat) : o (o e) = e := by unfold o; split <;> split <;> omega
theorem o_lt {e N : Nat} (hN : N % 2 = 0) (h : e < N) : o e < N := by unfold o; split <;> omega
theorem o_ev {N : Nat} (hN : N % 2 = 0) : o N = N + 1 := by unfold o; rw [if_pos hN]
theorem o_od {N : Nat} (hN : N % 2 = 0) : o (N + 1) = N := by unfold o; rw [if_neg (by omega)]; omega
theorem pp_snoc : ∀ (l : List Nat) (x : Nat), ∃ y, y ∈ x :: l ∧ ∀ z, pp (x :: (l ++ [z])) = pp (x :: l) ++ [(y, z)]
  | [], x => ⟨x, List.mem_cons_self, fun z => rfl⟩
  | b :: l, x => by
    obtain ⟨y, h1, h2⟩ := pp_snoc l b
    refine ⟨y, List.mem_cons_of_mem _ h1, fun z => ?_⟩
    show (x, b) :: pp (b :: (l ++ [z])) = (x, b) :: pp (b :: l) ++ [(y, z)]
    rw [h2 z]; rfl
/-- of a list of rounds: one has m behind e now -/
def PutIn (rs : List (List Nat)) (e m : Nat) (rs' : List (List Nat)) : Prop := ∃ A r B, rs = A ++ r :: B ∧ e ∈ r ∧ rs' = A ++ put r e m :: B
theorem PutIn.perm {rs rs' : List (List Nat)} {e m : Nat} (h : PutIn rs e m rs') : rs'.flatten.Perm (m :: rs.flatten) := by
  obtain ⟨A, r, B, rfl, _, rfl⟩ := h
  simp only [List.flatten_append, List.flatten_cons]
  have h1 : (put r e m ++ B.flatten).Perm (m :: (r ++ B.flatten)) := put_perm.append_right _
  exact (h1.append_left _).trans List.perm_middle
theorem PutIn.keep {rs rs' : List (List Nat)} {e m : Nat} (h : PutIn rs e m rs') {x y : Nat} (p : P rs x y) (hx : x ≠ e) : P rs' x y := by
  obtain ⟨A, r, B, rfl, he, rfl⟩ := h
  obtain ⟨q, hq, hp⟩ := p
  rcases List.mem_append.mp hq with k | k
  · exact ⟨q, List.mem_append_left _ k, hp⟩
  · rcases List.mem_cons.mp k with k | k
    · subst k; exact ⟨_, List.mem_append_right _ List.mem_cons_self, (cy_put he).1 _ _ hp hx⟩
    · exact ⟨q, List.mem_append_right _ (List.mem_cons_of_mem _ k), hp⟩
theorem PutIn.at {rs rs' : List (List Nat)} {e m : Nat} (h : PutIn rs e m rs') : P rs' e m := by
  obtain ⟨A, r, B, rfl, he, rfl⟩ := h
  exact ⟨_, List.mem_append_right _ List.mem_cons_self, (cy_put he).2.1⟩
theorem PutIn.on {rs rs' : List (List Nat)} {e m : Nat} (h : PutIn rs e m rs') (hn : rs.flatten.Nodup) {z : Nat} (p : P rs e z) : P rs' m z := by
  obtain ⟨A, r, B, rfl, he, rfl⟩ := h
  obtain ⟨q, hq, hp⟩ := p
  have e1 := flat_inj hn hq (List.mem_append_right _ List.mem_cons_self) (cy_mem hp).1 he
  subst e1
  exact ⟨_, List.mem_append_right _ List.mem_cons_self, (cy_put he).2.2 z (flat_nd hn hq) hp⟩
structure Flat (rs rims : List (List Nat)) (N : Nat) : Prop where
  ev : N % 2 = 0
  rN : rs.flatten.Perm (List.range N)
  mN : rims.flatten.Perm (List.range N)
  rne : ∀ r ∈ rs, r ≠ []
  ne : ∀ r ∈ rims, r ≠ []
  ad : ∀ r ∈ rims, ∀ x y, (x, y) ∈ cy r → P rs y (o x)
theorem Flat.nd {rs rims : List (List Nat)} {N : Nat} (F : Flat rs rims N) : rs.flatten.Nodup := F.rN.nodup_iff.mpr List.nodup_range
theorem Flat.md {rs rims : List (List Nat)} {N : Nat} (F : Flat rs rims N) : rims.flatten.Nodup := F.mN.nodup_iff.mpr List.nodup_range
theorem range2 {N : Nat} {l : List Nat} (h : l.Perm (List.range N)) : (N :: (N + 1) :: l).Perm (List.range (N + 2)) := by
  rw [List.range_succ, List.range_succ]
  have h1 : (l ++ [N, N + 1]).Perm (List.range N ++ [N, N + 1]) := h.append_right _
  have h2 : (N :: (N + 1) :: l).Perm (l ++ [N, N + 1]) := List.perm_append_comm (l₁ := [N, N + 1]) (l₂ := l)
  simpa using h2.trans h1
theorem range2' {N : Nat} {l : List Nat} (h : l.Perm (List.range N)) : ((N + 1) :: N :: l).Perm (List.range (N + 2)) := (List.Perm.swap _ _ _).trans (range2 h)
/-- one rim is cut where an end of it stands -/
theorem rim_cut {rs rims : List (List Nat)} {N e : Nat} (F : Flat rs rims N) (he : e < N) : ∃ C D s t, rims = C ++ (s ++ e :: t) :: D ∧ e ∉ C.flatten ∧ e ∉ D.flatten ∧ e ∉ t ++ s := by
  have h1 : e ∈ rims.flatten := F.mN.mem_iff.mpr (List.mem_range.mpr he)
  obtain ⟨q, hq, hx⟩ := List.mem_flatten.mp h1
  obtain ⟨C, D, rfl⟩ := mem_cut hq
  obtain ⟨s, t, rfl⟩ := mem_cut hx
  have hn := F.md
  simp only [List.flatten_append, List.flatten_cons] at hn
  rw [List.nodup_append] at hn
  obtain ⟨n1, n2, n3⟩ := hn
  rw [List.nodup_append] at n2
  obtain ⟨m1, m2, m3⟩ := n2
  refine ⟨C, D, s, t, rfl, fun z => n3 e z e (by simp) rfl, fun z => m3 e (by simp) e z rfl, ?_⟩
  have m4 : (e :: (t ++ s)).Nodup := (List.perm_append_comm (l₁ := s) (l₂ := e :: t)).nodup_iff.mp m1
  exact (List.nodup_cons.mp m4).1
theorem P_more {rs : List (List Nat)} (q : List (List Nat)) {x y : Nat} (h : P rs x y) : P (rs ++ q) x y := by
  obtain ⟨r, h1, h2⟩ := h
  exact ⟨r, List.mem_append_left _ h1, h2⟩
theorem put_ne {r : List Nat} {e m : Nat} : put r e m ≠ [] := by unfold put; simp
theorem PutIn.rne {rs rs' : List (List Nat)} {e m : Nat} (h : PutIn rs e m rs') (hr : ∀ r ∈ rs, r ≠ []) : ∀ r ∈ rs', r ≠ [] := by
  obtain ⟨A, r, B, rfl, he, rfl⟩ := h
  intro q hq
  rcases List.mem_append.mp hq with k | k
  · exact hr q (List.mem_append_left _ k)
  · rcases List.mem_cons.mp k with k | k
    · subst k; exact put_ne
    · exact hr q (List.mem_append_right _ (List.mem_cons_of_mem _ k))
/-- an arrow is hung on: m behind e, its other end at a new place -/
theorem Flat.hang {rs rims rs' : List (List Nat)} {N e m : Nat} (F : Flat rs rims N) (he : e < N) (h : PutIn rs e m rs') (hm : m = N ∨ m = N + 1) : ∃ rims', rims'.length = rims.length ∧ Flat (rs' ++ [[o m]]) rims' (N + 2) := by
  obtain ⟨C, D, s, t, rfl, hC, hD, hts⟩ := rim_cut F he
  have hev := F.ev
  obtain ⟨y, hy, hl⟩ := pp_snoc (t ++ s) e
  refine ⟨C ++ (e :: (t ++ s ++ [m] ++ [o m])) :: D, by simp, by have := F.ev; omega, ?_, ?_, ?_, ?_, ?_⟩
  · have h1 : (rs' ++ [[o m]]).flatten.Perm (o m :: m :: rs.flatten) := by
      simp only [List.flatten_append, List.flatten_cons, List.flatten_nil, List.append_nil]
      exact List.perm_append_comm.trans (h.perm.cons _)
    rcases hm with rfl | rfl
    · rw [o_ev hev] at h1 ⊢; exact h1.trans (range2' F.rN)
    · rw [o_od hev] at h1 ⊢; exact h1.trans (range2 F.rN)
  · have h2 : (C ++ (e :: (t ++ s ++ [m] ++ [o m])) :: D).flatten.Perm (o m :: m :: (C ++ (s ++ e :: t) :: D).flatten) := by
      simp only [List.flatten_append, List.flatten_cons]
      have k1 : (e :: (t ++ s ++ [m] ++ [o m])).Perm (o m :: m :: (s ++ e :: t)) := by
        have k2 : (e :: (t ++ s ++ [m] ++ [o m])).Perm (o m :: m :: (e :: (t ++ s))) := by
          have : e :: (t ++ s ++ [m] ++ [o m]) = (e :: (t ++ s)) ++ [m, o m] := by simp
          rw [this]
          exact (List.perm_append_comm).trans (List.Perm.swap _ _ _)
        exact k2.trans (((List.perm_append_comm (l₁ := e :: t) (l₂ := s)).cons _).cons _)
      have k3 := (k1.append_right D.flatten).append_left C.flatten
      refine k3.trans ?_
      show (C.flatten ++ (o m :: (m :: (s ++ e :: t ++ D.flatten)))).Perm _
      exact List.perm_middle.trans (List.perm_middle.cons _)
    rcases hm with rfl | rfl
    · rw [o_ev hev] at h2 ⊢; exact h2.trans (range2' F.mN)
    · rw [o_od hev] at h2 ⊢; exact h2.trans (range2 F.mN)
  · intro r hr
    rcases List.mem_append.mp hr with k | k
    · exact h.rne F.rne r k
    · simp at k; subst k; simp
  · intro r hr
    rcases List.mem_append.mp hr with k | k
    · exact F.ne r (List.mem_append_left _ k)
    · rcases List.mem_cons.mp k with k | k
      · subst k; simp
      · exact F.ne r (List.mem_append_right _ (List.mem_cons_of_mem _ k))
  · intro r hr a b hab
    rcases List.mem_append.mp hr with k | k
    · refine P_more _ (h.keep (F.ad r (List.mem_append_left _ k) a b hab) fun z => hC ?_)
      subst z; exact List.mem_flatten.mpr ⟨r, k, (cy_mem hab).2⟩
    · rcases List.mem_cons.mp k with k4 | k5
      · subst k4
        have hab : (a, b) ∈ pp (e :: (t ++ s ++ [m] ++ [o m] ++ [e])) := hab
        have e1 : pp (e :: (t ++ s ++ [m] ++ [o m] ++ [e])) = pp (e :: (t ++ s)) ++ [(y, m), (m, o m), (o m, e)] := by
          have : e :: (t ++ s ++ [m] ++ [o m] ++ [e]) = (e :: (t ++ s)) ++ m :: [o m, e] := by simp
          rw [this, pp_cut]
          show pp (e :: (t ++ s ++ [m])) ++ _ = _
          rw [hl m]; simp [pp]
        rw [e1] at hab
        have old : ∀ p, p ∈ cy (s ++ e :: t) ↔ p ∈ pp (e :: (t ++ s)) ++ [(y, e)] := fun p => by
          rw [cy_cut]
          show p ∈ pp (e :: (t ++ s ++ [e])) ↔ _
          rw [hl e]
        have mem : (s ++ e :: t) ∈ C ++ (s ++ e :: t) :: D := List.mem_append_right _ List.mem_cons_self
        rcases List.mem_append.mp hab with k | k
        · refine P_more _ (h.keep (F.ad _ mem a b ((old _).mpr (List.mem_append_left _ k))) fun z => ?_)
          subst z; exact hts (pp_mem k).2
        · simp only [List.mem_cons, List.not_mem_nil, or_false, Prod.mk.injEq] at k
          rcases k with ⟨rfl, rfl⟩ | ⟨rfl, rfl⟩ | ⟨rfl, rfl⟩
          · exact P_more _ (h.on F.nd (F.ad _ mem a e ((old _).mpr (by simp))))
          · exact ⟨[o a], by simp, by simp [cy, pp]⟩
          · rw [o_o]; exact P_more _ h.at
      · refine P_more _ (h.keep (F.ad r (List.mem_append_right _ (List.mem_cons_of_mem _ k5)) a b hab) fun z => hD ?_)
        subst z; exact List.mem_flatten.mpr ⟨r, k5, (cy_mem hab).2⟩
end Ch
set_option linter.all false
namespace Ch
/-- an arrow is put in at one angle: its ends N + 1, then N behind e -/
theorem Flat.loop {rs rims rs1 rs2 : List (List Nat)} {N e : Nat} (F : Flat rs rims N) (he : e < N) (h1 : PutIn rs e (N + 1) rs1) (h2 : PutIn rs1 e N rs2) : ∃ rims', rims'.length = rims.length + 1 ∧ Flat rs2 rims' (N + 2) := by
  obtain ⟨C, D, s, t, rfl, hC, hD, hts⟩ := rim_cut F he
  have hev := F.ev
  obtain ⟨y, hy, hl⟩ := pp_snoc (t ++ s) e
  have hp : rs2.flatten.Perm (N :: (N + 1) :: rs.flatten) := h2.perm.trans (h1.perm.cons _)
  have n1 : rs1.flatten.Nodup := by
    have := (range2 F.rN).nodup_iff.mpr List.nodup_range
    have := hp.nodup_iff.mpr this
    exact (List.nodup_cons.mp (h2.perm.nodup_iff.mp this)).2
  refine ⟨C ++ (e :: (t ++ s ++ [N + 1])) :: [N] :: D, by simp; omega, by omega, hp.trans (range2 F.rN), ?_, h2.rne (h1.rne F.rne), ?_, ?_⟩
  · have k : (C ++ (e :: (t ++ s ++ [N + 1])) :: [N] :: D).flatten.Perm (N :: (N + 1) :: (C ++ (s ++ e :: t) :: D).flatten) := by
      simp only [List.flatten_append, List.flatten_cons]
      have k1 : (e :: (t ++ s ++ [N + 1]) ++ ([N] ++ D.flatten)).Perm (N :: (N + 1) :: (s ++ e :: t ++ D.flatten)) := by
        have k2 : (e :: (t ++ s ++ [N + 1]) ++ [N]).Perm (N :: (N + 1) :: (s ++ e :: t)) := by
          have : e :: (t ++ s ++ [N + 1]) ++ [N] = (e :: (t ++ s)) ++ [N + 1, N] := by simp
          rw [this]
          exact (List.perm_append_comm).trans ((List.Perm.swap _ _ _).trans (((List.perm_append_comm (l₁ := e :: t) (l₂ := s)).cons _).cons _))
        have := k2.append_right D.flatten
        simpa using this
      exact (k1.append_left C.flatten).trans (List.perm_middle.trans (List.perm_middle.cons _))
    exact k.trans (range2 F.mN)
  · intro r hr
    rcases List.mem_append.mp hr with k | k
    · exact F.ne r (List.mem_append_left _ k)
    · simp only [List.mem_cons] at k
      rcases k with rfl | rfl | k
      · simp
      · simp
      · exact F.ne r (List.mem_append_right _ (List.mem_cons_of_mem _ k))
  · have lift : ∀ {a b : Nat}, P rs b (o a) → b ≠ e → P rs2 b (o a) := fun p z => h2.keep (h1.keep p z) z
    intro r hr a b hab
    rcases List.mem_append.mp hr with k | k
    · refine lift (F.ad r (List.mem_append_left _ k) a b hab) fun z => hC ?_
      subst z; exact List.mem_flatten.mpr ⟨r, k, (cy_mem hab).2⟩
    · simp only [List.mem_cons] at k
      have old : ∀ p, p ∈ cy (s ++ e :: t) ↔ p ∈ pp (e :: (t ++ s)) ++ [(y, e)] := fun p => by
        rw [cy_cut]
        show p ∈ pp (e :: (t ++ s ++ [e])) ↔ _
        rw [hl e]
      have mem : (s ++ e :: t) ∈ C ++ (s ++ e :: t) :: D := List.mem_append_right _ List.mem_cons_self
      rcases k with k4 | k4 | k5
      · subst k4
        have hab : (a, b) ∈ pp (e :: (t ++ s ++ [N + 1] ++ [e])) := hab
        have e1 : pp (e :: (t ++ s ++ [N + 1] ++ [e])) = pp (e :: (t ++ s)) ++ [(y, N + 1), (N + 1, e)] := by
          have : e :: (t ++ s ++ [N + 1] ++ [e]) = (e :: (t ++ s)) ++ (N + 1) :: [e] := by simp
          rw [this, pp_cut]
          show pp (e :: (t ++ s ++ [N + 1])) ++ _ = _
          rw [hl (N + 1)]; simp [pp]
        rw [e1] at hab
        rcases List.mem_append.mp hab with k | k
        · refine lift (F.ad _ mem a b ((old _).mpr (List.mem_append_left _ k))) fun z => ?_
          subst z; exact hts (pp_mem k).2
        · simp only [List.mem_cons, List.not_mem_nil, or_false, Prod.mk.injEq] at k
          rcases k with ⟨rfl, rfl⟩ | ⟨rfl, rfl⟩
          · have q := h1.on F.nd (F.ad _ mem a e ((old _).mpr (by simp)))
            exact h2.keep q (by omega)
          · rw [o_od hev]; exact h2.at
      · subst k4
        simp [cy, pp] at hab
        obtain ⟨rfl, rfl⟩ := hab
        rw [o_ev hev]
        exact h2.on n1 h1.at
      · refine lift (F.ad r (List.mem_append_right _ (List.mem_cons_of_mem _ k5)) a b hab) fun z => hD ?_
        subst z; exact List.mem_flatten.mpr ⟨r, k5, (cy_mem hab).2⟩
/-- an arrow is put in at two angles of one rim: N behind e, then N + 1 behind f -/
theorem Flat.tie {rs rims rs1 rs2 : List (List Nat)} {N e f : Nat} (F : Flat rs rims N) (he : e < N) (hf : f < N) (hne : e ≠ f) (hs : ∃ q ∈ rims, e ∈ q ∧ f ∈ q) (h1 : PutIn rs e N rs1) (h2 : PutIn rs1 f (N + 1) rs2) : ∃ rims', rims'.length = rims.length + 1 ∧ Flat rs2 rims' (N + 2) := by
  obtain ⟨C, D, s, t, rfl, hC, hD, hts⟩ := rim_cut F he
  have hev := F.ev
  have hp : rs2.flatten.Perm ((N + 1) :: N :: rs.flatten) := h2.perm.trans (h1.perm.cons _)
  have n1 : rs1.flatten.Nodup := by
    have := (range2' F.rN).nodup_iff.mpr List.nodup_range
    have := hp.nodup_iff.mpr this
    exact (List.nodup_cons.mp (h2.perm.nodup_iff.mp this)).2
  have hfm : f ∈ t ++ s := by
    obtain ⟨q, hq, q1, q2⟩ := hs
    have : q = s ++ e :: t := flat_inj F.md hq (List.mem_append_right _ List.mem_cons_self) q1 (by simp)
    rw [this] at q2
    simp only [List.mem_append, List.mem_cons] at q2 ⊢
    rcases q2 with z | z | z
    · exact .inr z
    · exact absurd z.symm hne
    · exact .inl z
  obtain ⟨u, v, huv⟩ := mem_cut hfm
  have hmd := F.md
  have hnq : (e :: (u ++ f :: v)).Nodup := by
    have h0 := flat_nd hmd (r := s ++ e :: t) (List.mem_append_right _ List.mem_cons_self)
    have : (e :: (t ++ s)).Nodup := (List.perm_append_comm (l₁ := s) (l₂ := e :: t)).nodup_iff.mp h0
    rwa [huv] at this
  have hfC : f ∉ C.flatten ∧ f ∉ D.flatten := by
    simp only [List.flatten_append, List.flatten_cons] at hmd
    rw [List.nodup_append] at hmd
    obtain ⟨m1, m2, m3⟩ := hmd
    rw [List.nodup_append] at m2
    have hfq : f ∈ s ++ e :: t := by
      simp only [List.mem_append, List.mem_cons] at hfm ⊢
      rcases hfm with z | z
      · exact .inr (.inr z)
      · exact .inl z
    exact ⟨fun z => m3 f z f (List.mem_append_left _ hfq) rfl, fun z => m2.2.2 f hfq f z rfl⟩
  obtain ⟨y1, hy1, l1⟩ := pp_snoc u e
  obtain ⟨y2, hy2, l2⟩ := pp_snoc v f
  have old : ∀ p, p ∈ cy (s ++ e :: t) ↔ p ∈ pp (e :: u) ++ [(y1, f)] ++ (pp (f :: v) ++ [(y2, e)]) := fun p => by
    rw [cy_cut]
    show p ∈ pp (e :: (t ++ s ++ [e])) ↔ _
    rw [huv]
    have : e :: (u ++ f :: v ++ [e]) = (e :: u) ++ f :: (v ++ [e]) := by simp
    rw [this, pp_cut]
    show p ∈ pp (e :: (u ++ [f])) ++ pp (f :: (v ++ [e])) ↔ _
    rw [l1 f, l2 e]
  have mem : (s ++ e :: t) ∈ C ++ (s ++ e :: t) :: D := List.mem_append_right _ List.mem_cons_self
  have he1 : e ∉ u ++ f :: v := (List.nodup_cons.mp hnq).1
  have hnf : f ∉ u ∧ f ∉ v := by
    have := (List.nodup_cons.mp hnq).2
    rw [List.nodup_append] at this
    exact ⟨fun z => this.2.2 f z f List.mem_cons_self rfl, (List.nodup_cons.mp this.2.1).1⟩
  refine ⟨C ++ (e :: (u ++ [N + 1])) :: (f :: (v ++ [N])) :: D, by simp; omega, by omega, hp.trans (range2' F.rN), ?_, h2.rne (h1.rne F.rne), ?_, ?_⟩
  · have k : (C ++ (e :: (u ++ [N + 1])) :: (f :: (v ++ [N])) :: D).flatten.Perm ((N + 1) :: N :: (C ++ (s ++ e :: t) :: D).flatten) := by
      simp only [List.flatten_append, List.flatten_cons]
      have k0 : (s ++ e :: t).Perm (e :: (u ++ f :: v)) := by rw [← huv]; exact List.perm_append_comm (l₁ := s) (l₂ := e :: t)
      have k2 : (e :: (u ++ [N + 1]) ++ (f :: (v ++ [N]))).Perm ((N + 1) :: N :: (s ++ e :: t)) := by
        have c1 : (e :: (u ++ [N + 1]) ++ (f :: (v ++ [N]))) = (e :: u) ++ (N + 1) :: (f :: v ++ [N]) := by simp
        have c2 : (e :: u) ++ (f :: v ++ [N]) = (e :: (u ++ f :: v)) ++ [N] := by simp
        rw [c1]
        refine List.perm_middle.trans (List.Perm.cons _ ?_)
        rw [c2]
        exact List.perm_append_comm.trans (k0.symm.cons _)
      have k1 : (e :: (u ++ [N + 1]) ++ (f :: (v ++ [N]) ++ D.flatten)).Perm ((N + 1) :: N :: (s ++ e :: t ++ D.flatten)) := by
        have := k2.append_right D.flatten
        simpa using this
      exact (k1.append_left C.flatten).trans (List.perm_middle.trans (List.perm_middle.cons _))
    exact k.trans (range2' F.mN)
  · intro r hr
    rcases List.mem_append.mp hr with k | k
    · exact F.ne r (List.mem_append_left _ k)
    · simp only [List.mem_cons] at k
      rcases k with rfl | rfl | k
      · simp
      · simp
      · exact F.ne r (List.mem_append_right _ (List.mem_cons_of_mem _ k))
  · have lift : ∀ {a b : Nat}, P rs b (o a) → b ≠ e → b ≠ f → P rs2 b (o a) := fun p z z2 => h2.keep (h1.keep p z) z2
    intro r hr a b hab
    rcases List.mem_append.mp hr with k | k
    · refine lift (F.ad r (List.mem_append_left _ k) a b hab) (fun z => hC ?_) (fun z => hfC.1 ?_)
      · subst z; exact List.mem_flatten.mpr ⟨r, k, (cy_mem hab).2⟩
      · subst z; exact List.mem_flatten.mpr ⟨r, k, (cy_mem hab).2⟩
    · simp only [List.mem_cons] at k
      rcases k with k4 | k4 | k5
      · subst k4
        have hab : (a, b) ∈ pp (e :: (u ++ [N + 1] ++ [e])) := hab
        have e1 : pp (e :: (u ++ [N + 1] ++ [e])) = pp (e :: u) ++ [(y1, N + 1), (N + 1, e)] := by
          have : e :: (u ++ [N + 1] ++ [e]) = (e :: u) ++ (N + 1) :: [e] := by simp
          rw [this, pp_cut]
          show pp (e :: (u ++ [N + 1])) ++ _ = _
          rw [l1 (N + 1)]; simp [pp]
        rw [e1] at hab
        rcases List.mem_append.mp hab with k | k
        · have hb : b ∈ u := (pp_mem k).2
          refine lift (F.ad _ mem a b ((old _).mpr (by simp [k]))) (fun z => ?_) (fun z => ?_)
          · rw [z] at hb; exact he1 (by simp [hb])
          · rw [z] at hb; exact hnf.1 hb
        · simp only [List.mem_cons, List.not_mem_nil, or_false, Prod.mk.injEq] at k
          rcases k with ⟨rfl, rfl⟩ | ⟨rfl, rfl⟩
          · have q := F.ad _ mem a f ((old _).mpr (by simp))
            exact h2.on n1 (h1.keep q (Ne.symm hne))
          · rw [o_od hev]; exact h2.keep h1.at hne
      · subst k4
        have hab : (a, b) ∈ pp (f :: (v ++ [N] ++ [f])) := hab
        have e1 : pp (f :: (v ++ [N] ++ [f])) = pp (f :: v) ++ [(y2, N), (N, f)] := by
          have : f :: (v ++ [N] ++ [f]) = (f :: v) ++ N :: [f] := by simp
          rw [this, pp_cut]
          show pp (f :: (v ++ [N])) ++ _ = _
          rw [l2 N]; simp [pp]
        rw [e1] at hab
        rcases List.mem_append.mp hab with k | k
        · have hb : b ∈ v := (pp_mem k).2
          refine lift (F.ad _ mem a b ((old _).mpr (by simp [k]))) (fun z => ?_) (fun z => ?_)
          · rw [z] at hb; exact he1 (by simp [hb])
          · rw [z] at hb; exact hnf.2 hb
        · simp only [List.mem_cons, List.not_mem_nil, or_false, Prod.mk.injEq] at k
          rcases k with ⟨rfl, rfl⟩ | ⟨rfl, rfl⟩
          · have q := F.ad _ mem a e ((old _).mpr (by simp))
            exact h2.keep (h1.on F.nd q) (by omega)
          · rw [o_ev hev]; exact h2.at
      · refine lift (F.ad r (List.mem_append_right _ (List.mem_cons_of_mem _ k5)) a b hab) (fun z => hD ?_) (fun z => hfC.2 ?_)
        · subst z; exact List.mem_flatten.mpr ⟨r, k5, (cy_mem hab).2⟩
        · subst z; exact List.mem_flatten.mpr ⟨r, k5, (cy_mem hab).2⟩
end Ch
set_option linter.all false
namespace Ch
/-- a round told from another end -/
def Turn (r r' : List Nat) : Prop := ∃ s t, r = s ++ t ∧ r' = t ++ s
theorem cy_turn {s t : List Nat} (p : Nat × Nat) : p ∈ cy (s ++ t) ↔ p ∈ cy (t ++ s) := by
  cases t with
  | nil => simp
  | cons e t => exact cy_cut s e t p
theorem turn_flatten {rs rs' : List (List Nat)} (hl : rs.length = rs'.length) (h : ∀ (i : Nat) (r r' : List Nat), rs[i]? = some r → rs'[i]? = some r' → Turn r r') : rs'.flatten.Perm rs.flatten := by
  induction rs generalizing rs' with
  | nil =>
    cases rs' with
    | nil => exact .refl _
    | cons a l => simp at hl
  | cons a rs ih =>
    cases rs' with
    | nil => simp at hl
    | cons b rs' =>
      obtain ⟨s, t, h1, h2⟩ := h 0 a b rfl rfl
      have := ih (rs' := rs') (by simpa using hl) fun i r r' e1 e2 => h (i + 1) r r' e1 e2
      rw [List.flatten_cons, List.flatten_cons, h1, h2]
      exact (List.perm_append_comm (l₁ := t) (l₂ := s)).append this
theorem P_turn {rs rs' : List (List Nat)} (hl : rs.length = rs'.length) (h : ∀ (i : Nat) (r r' : List Nat), rs[i]? = some r → rs'[i]? = some r' → Turn r r') {x y : Nat} (p : P rs x y) : P rs' x y := by
  obtain ⟨r, hr, hp⟩ := p
  obtain ⟨i, hi, e⟩ := List.getElem_of_mem hr
  have hi' : i < rs'.length := by omega
  obtain ⟨s, t, h1, h2⟩ := h i r rs'[i] (by rw [List.getElem?_eq_getElem hi, e]) (List.getElem?_eq_getElem hi')
  refine ⟨rs'[i], List.getElem_mem hi', ?_⟩
  rw [h1] at hp
  rw [h2]
  exact (cy_turn _).mp hp
theorem Flat.turn {rs rs' rims : List (List Nat)} {N : Nat} (F : Flat rs rims N) (hl : rs.length = rs'.length) (h : ∀ (i : Nat) (r r' : List Nat), rs[i]? = some r → rs'[i]? = some r' → Turn r r') : Flat rs' rims N := by
  refine ⟨F.ev, (turn_flatten hl h).trans F.rN, F.mN, fun r' hr' => ?_, F.ne, fun r hr x y q => P_turn hl h (F.ad r hr x y q)⟩
  obtain ⟨i, hi, e⟩ := List.getElem_of_mem hr'
  have hi' : i < rs.length := by omega
  obtain ⟨s, t, h1, h2⟩ := h i rs[i] r' (List.getElem?_eq_getElem hi') (by rw [List.getElem?_eq_getElem hi, e])
  intro z
  have := F.rne rs[i] (List.getElem_mem hi')
  rw [z] at h2
  simp at h2
  rw [h1, h2.1, h2.2] at this
  exact this rfl
end Ch
set_option linter.all false
namespace Ch
/-! # counting along a round, along a rim -/
theorem pp_get : ∀ (l : List Nat), pp l = (List.range (l.length - 1)).map fun i => (l.getD i 0, l.getD (i + 1) 0)
  | [] => rfl
  | [x] => rfl
  | x :: y :: l => by
    have ih := pp_get (y :: l)
    show (x, y) :: pp (y :: l) = _
    rw [ih]
    have : (x :: y :: l).length - 1 = ((y :: l).length - 1) + 1 := by simp
    rw [this, List.range_succ_eq_map, List.map_cons, List.map_map]
    rfl
theorem cy_rot (s t : List Nat) : (cy (s ++ t)).Perm (cy (t ++ s)) := by
  cases t with
  | nil => simp
  | cons e t =>
    cases s with
    | nil => simp
    | cons x s =>
      have h1 : cy (x :: s ++ e :: t) = pp (x :: s ++ [e]) ++ pp (e :: (t ++ [x])) := by
        show pp (x :: (s ++ e :: t ++ [x])) = _
        rw [show x :: (s ++ e :: t ++ [x]) = (x :: s) ++ e :: (t ++ [x]) by simp]
        exact pp_cut _ _ _
      have h2 : cy (e :: t ++ x :: s) = pp (e :: (t ++ [x])) ++ pp (x :: s ++ [e]) := by
        show pp (e :: (t ++ x :: s ++ [e])) = _
        rw [show e :: (t ++ x :: s ++ [e]) = (e :: t) ++ x :: (s ++ [e]) by simp]
        rw [pp_cut]; simp
      rw [h1, h2]
      exact List.perm_append_comm
theorem pp_fst : ∀ (x : Nat) (l : List Nat) (z : Nat), (pp (x :: (l ++ [z]))).map (·.1) = x :: l
  | x, [], z => rfl
  | x, y :: l, z => by
    show x :: (pp (y :: (l ++ [z]))).map (·.1) = _
    rw [pp_fst y l z]
theorem pp_snd : ∀ (x : Nat) (l : List Nat) (z : Nat), (pp (x :: (l ++ [z]))).map (·.2) = l ++ [z]
  | x, [], z => rfl
  | x, y :: l, z => by
    show y :: (pp (y :: (l ++ [z]))).map (·.2) = _
    rw [pp_snd y l z]; rfl
theorem cy_fst (l : List Nat) : (cy l).map (·.1) = l := by
  cases l with
  | nil => rfl
  | cons x l => exact pp_fst x l x
theorem cy_snd (l : List Nat) : ((cy l).map (·.2)).Perm l := by
  cases l with
  | nil => exact .refl _
  | cons x l =>
    show ((pp (x :: (l ++ [x]))).map (·.2)).Perm _
    rw [pp_snd]
    exact List.perm_append_comm (l₁ := l) (l₂ := [x])
theorem cy_len (l : List Nat) : (cy l).length = l.length := by
  have := congrArg List.length (cy_fst l)
  simpa using this
def ev (x : Nat) : Bool := decide (x % 2 = 0)
def st (p : Nat × Nat) : Bool := decide (p.1 % 2 ≠ p.2 % 2)
/-- how often the way turns -/
def sN (r : List Nat) : Nat := (cy r).countP st
theorem sN_turn {r r' : List Nat} (h : Turn r r') : sN r' = sN r := by
  obtain ⟨s, t, rfl, rfl⟩ := h
  exact (cy_rot t s).countP_eq _
def b2 (a b : Bool) (p : Nat × Nat) : Bool := decide (ev p.1 = a) && decide (ev p.2 = b)
theorem split1 (l : List (Nat × Nat)) (a : Bool) : l.countP (fun p => decide (ev p.1 = a)) = l.countP (b2 a true) + l.countP (b2 a false) := by
  induction l with
  | nil => rfl
  | cons p l ih =>
    simp only [List.countP_cons, ih, b2]
    rcases Bool.eq_false_or_eq_true (ev p.1) with h1 | h1 <;> rcases Bool.eq_false_or_eq_true (ev p.2) with h2 | h2 <;> cases a <;> simp [h1, h2] <;> omega
theorem split2 (l : List (Nat × Nat)) (a : Bool) : l.countP (fun p => decide (ev p.2 = a)) = l.countP (b2 true a) + l.countP (b2 false a) := by
  induction l with
  | nil => rfl
  | cons p l ih =>
    simp only [List.countP_cons, ih, b2]
    rcases Bool.eq_false_or_eq_true (ev p.1) with h1 | h1 <;> rcases Bool.eq_false_or_eq_true (ev p.2) with h2 | h2 <;> cases a <;> simp [h1, h2] <;> omega
theorem splitS (l : List (Nat × Nat)) : l.countP st = l.countP (b2 true false) + l.countP (b2 false true) := by
  induction l with
  | nil => rfl
  | cons p l ih =>
    simp only [List.countP_cons, ih, b2, st, ev]
    rcases Nat.mod_two_eq_zero_or_one p.1 with h1 | h1 <;> rcases Nat.mod_two_eq_zero_or_one p.2 with h2 | h2 <;> simp [h1, h2] <;> omega
theorem cnt1 (l : List Nat) (a : Bool) : (cy l).countP (fun p => decide (ev p.1 = a)) = l.countP fun x => decide (ev x = a) := by
  conv => rhs; rw [← cy_fst l]
  rw [List.countP_map]; rfl
theorem cnt2 (l : List Nat) (a : Bool) : (cy l).countP (fun p => decide (ev p.2 = a)) = l.countP fun x => decide (ev x = a) := by
  rw [← (cy_snd l).countP_eq, List.countP_map]; rfl
/-- as often up as down -/
theorem updown (l : List Nat) : (cy l).countP (b2 true false) = (cy l).countP (b2 false true) := by
  have h1 := split1 (cy l) true
  have h2 := split2 (cy l) true
  rw [cnt1] at h1
  rw [cnt2] at h2
  omega
theorem forks_row (r : List Nat) : 2 * (cy r).countP (b2 true true) + sN r = 2 * r.countP ev := by
  have h1 := split1 (cy r) true
  rw [cnt1] at h1
  have h2 := splitS (cy r)
  have h3 := updown r
  have h4 : r.countP (fun x => decide (ev x = true)) = r.countP ev := by congr 1; funext x; cases ev x <;> rfl
  rw [h4] at h1
  unfold sN
  omega
theorem sN_even (r : List Nat) : sN r % 2 = 0 := by
  have := forks_row r
  omega
/-- nothing turns where all are alike -/
theorem sN_zero {r : List Nat} {x : Nat} (hx : x ∈ r) : sN r = 0 ↔ ∀ y ∈ r, y % 2 = x % 2 := by
  unfold sN
  rw [List.countP_eq_zero]
  constructor
  · intro h
    obtain ⟨s, t, hr⟩ := mem_cut hx
    have hs : ∀ p ∈ cy (x :: (t ++ s)), p.1 % 2 = p.2 % 2 := fun p hp => by
      have := h p (by rw [hr]; exact (cy_cut s x t p).mpr hp)
      simpa [st] using this
    have key : ∀ (l : List Nat) (a z : Nat), (∀ p ∈ pp (a :: (l ++ [z])), p.1 % 2 = p.2 % 2) → ∀ y ∈ l, y % 2 = a % 2 := by
      intro l
      induction l with
      | nil => intro a z _ y hy; cases hy
      | cons b l ih =>
        intro a z hp y hy
        have h1 : a % 2 = b % 2 := hp (a, b) List.mem_cons_self
        rcases List.mem_cons.mp hy with e | e
        · rw [e]; exact h1.symm
        · rw [ih b z (fun p hq => hp p (List.mem_cons_of_mem _ hq)) y e]; exact h1.symm
    intro y hy
    have hy' : y ∈ x :: (t ++ s) := by
      rw [hr] at hy
      simp at hy ⊢
      rcases hy with z | z | z
      · right; right; exact z
      · left; exact z
      · right; left; exact z
    rcases List.mem_cons.mp hy' with e | e
    · rw [e]
    · exact key (t ++ s) x x hs y e
  · intro h p hp
    have := cy_mem (x := p.1) (y := p.2) hp
    have h1 := h _ this.1
    have h2 := h _ this.2
    simp [st, h1, h2]
/-! ### forks and meets of a rim -/
theorem o_par (x : Nat) : (o x) % 2 = 1 - x % 2 := by unfold o; split <;> omega
/-- an angle's word by the next end -/
def isFork (nx : Nat → Nat) (e : Nat) : Bool := ev e && ev (nx e)
def isMeet (nx : Nat → Nat) (e : Nat) : Bool := !ev e && !ev (nx e)
theorem rim_forks {rs rims : List (List Nat)} {N : Nat} (F : Flat rs rims N) {f q : List Nat} (hq : q ∈ rims) (ht : Turn q f) {nx : Nat → Nat} (hnx : ∀ x y, P rs x y → nx x = y) : f.countP (isFork nx) = f.countP (isMeet nx) := by
  have had : ∀ p ∈ cy f, nx p.2 = o p.1 := fun p hp => by
    obtain ⟨s, t, e1, e2⟩ := ht
    have : p ∈ cy q := by
      rw [e2] at hp
      rw [e1]
      exact (cy_turn _).mpr hp
    exact hnx _ _ (F.ad q hq p.1 p.2 this)
  have hev : ∀ x, ev (o x) = !ev x := fun x => by
    unfold ev
    have := o_par x
    rcases Nat.mod_two_eq_zero_or_one x with h | h <;> rw [this, h] <;> rfl
  have h1 : f.countP (isFork nx) = (cy f).countP (b2 false true) := by
    rw [← (cy_snd f).countP_eq, List.countP_map]
    apply List.countP_congr
    intro p hp
    simp only [Function.comp, isFork, had p hp, hev, b2]
    cases ev p.1 <;> cases ev p.2 <;> simp
  have h2 : f.countP (isMeet nx) = (cy f).countP (b2 true false) := by
    rw [← (cy_snd f).countP_eq, List.countP_map]
    apply List.countP_congr
    intro p hp
    simp only [Function.comp, isMeet, had p hp, hev, b2]
    cases ev p.1 <;> cases ev p.2 <;> simp
  rw [h1, h2, updown]
theorem row_forks {rs : List (List Nat)} {r : List Nat} (hr : r ∈ rs) {nx : Nat → Nat} (hnx : ∀ x y, P rs x y → nx x = y) : r.countP (isFork nx) = (cy r).countP (b2 true true) := by
  conv => lhs; rw [← cy_fst r]
  rw [List.countP_map]
  apply List.countP_congr
  intro p hp
  have := hnx p.1 p.2 ⟨r, hr, hp⟩
  simp only [Function.comp, isFork, this, b2]
  cases ev p.1 <;> cases ev p.2 <;> simp
theorem evens (n : Nat) : (List.range (2 * n)).countP ev = n := by
  induction n with
  | zero => rfl
  | succ n ih =>
    rw [show 2 * (n + 1) = 2 * n + 1 + 1 by omega, List.range_succ, List.range_succ, List.countP_append, List.countP_append, ih]
    have h1 : ev (2 * n) = true := by unfold ev; simp
    have h2 : ev (2 * n + 1) = false := by unfold ev; simp
    simp [List.countP_cons, h1, h2]
/-- the forks of all rounds, none of which turns more than twice -/
theorem all_forks : ∀ (rs : List (List Nat)), (∀ r ∈ rs, sN r ≤ 2) → (rs.map fun r => (cy r).countP (b2 true true)).sum + rs.length = rs.flatten.countP ev + rs.countP fun r => decide (sN r = 0)
  | [], _ => rfl
  | r :: rs, h => by
    have ih := all_forks rs fun q hq => h q (List.mem_cons_of_mem _ hq)
    have h1 := forks_row r
    have h2 := h r List.mem_cons_self
    have h3 := sN_even r
    rw [List.flatten_cons, List.countP_append, List.countP_cons, List.map_cons, List.sum_cons, List.length_cons]
    by_cases z : sN r = 0
    · rw [if_pos (by simp [z])]; omega
    · have : sN r = 2 := by omega
      rw [if_neg (by simp [z])]; omega
theorem sum_countP (p : Nat → Bool) : ∀ (l : List (List Nat)), (l.map fun r => r.countP p).sum = l.flatten.countP p
  | [] => rfl
  | r :: l => by rw [List.map_cons, List.sum_cons, List.flatten_cons, List.countP_append, sum_countP p l]
/-- what all rims ask for -/
theorem sum_asks {rs rims fs : List (List Nat)} {A : Nat} (F : Flat rs rims (2 * A)) (hF : rs.length + rims.length = A + 2) (hp : fs.flatten.Perm (List.range (2 * A))) (hl : fs.length = rims.length) {nx : Nat → Nat} (hnx : ∀ x y, P rs x y → nx x = y) (hu : ∀ r ∈ rs, sN r ≤ 2) {o : Nat} (ho : o < 2 * A) :
    (fs.map fun f => if o ∈ f then ((f.countP (isFork nx) : Nat) : Int) + 1 else ((f.countP (isFork nx) : Nat) : Int) - 1).sum = ((rs.countP fun r => decide (sN r = 0) : Nat) : Int) := by
  have one : ∀ (l : List (List Nat)), l.flatten.Nodup → (l.map fun f => if o ∈ f then ((f.countP (isFork nx) : Nat) : Int) + 1 else ((f.countP (isFork nx) : Nat) : Int) - 1).sum = ((l.flatten.countP (isFork nx) : Nat) : Int) - l.length + if o ∈ l.flatten then 2 else 0 := by
    intro l
    induction l with
    | nil => intro _; simp
    | cons f l ih =>
      intro hn
      rw [List.flatten_cons, List.nodup_append] at hn
      have := ih hn.2.1
      rw [List.map_cons, List.sum_cons, this, List.flatten_cons, List.countP_append, List.length_cons]
      by_cases h1 : o ∈ f
      · have h2 : ¬ o ∈ l.flatten := fun z => hn.2.2 o h1 o z rfl
        rw [if_pos h1, if_neg h2, if_pos (List.mem_append_left _ h1)]; omega
      · by_cases h2 : o ∈ l.flatten
        · rw [if_neg h1, if_pos h2, if_pos (List.mem_append_right _ h2)]; omega
        · rw [if_neg h1, if_neg h2, if_neg (by rw [List.mem_append]; simp only [not_or]; exact ⟨h1, h2⟩)]; omega
  rw [one fs (hp.nodup_iff.mpr List.nodup_range), if_pos (hp.mem_iff.mpr (List.mem_range.mpr ho))]
  have h1 : fs.flatten.countP (isFork nx) = rs.flatten.countP (isFork nx) := (hp.trans F.rN.symm).countP_eq _
  have h2 : rs.flatten.countP (isFork nx) = (rs.map fun r => (cy r).countP (b2 true true)).sum := by
    rw [← sum_countP]
    congr 1
    exact List.map_congr_left fun r hr => row_forks hr hnx
  have h3 := all_forks rs hu
  have h4 : rs.flatten.countP ev = A := by rw [F.rN.countP_eq]; exact evens A
  omega
end Ch
set_option Elab.async false
set_option linter.all false
set_option maxRecDepth 100000
namespace Cl
open PySem PySem.Spec PyProof.Rows L2 Ab
/-! ### the abstract words, read off -/
section
variable {α β : Type} {m : Mem} {e : Env'} {d x y : D} {a b c : AE} {aa : AA} {t u : AT} {s s' : AS} {i : Nat} {f : F2} {f' : F2} {fl : FL} {g g' : AG} {ds : List D}
@[simp] theorem v_bind {z : α} {k : α → Mem → R β} : (R.ok z m).bind k = k z m := rfl
@[simp] theorem v_bindE {z : Ex} {k : α → Mem → R β} : (R.er z m : R α).bind k = .er z m := rfl
@[simp] theorem v_o {z : α} {k : α → Mem → O} : (R.ok z m).o e k = k z m := rfl
@[simp] theorem v_oE {z : Ex} {k : α → Mem → O} : (R.er z m : R α).o e k = .er z e m := rfl
@[simp] theorem v_nx {k : AS} : (O.nx e m).seq k = k e m := rfl
@[simp] theorem v_rt {k : AS} : (O.rt d m).seq k = .rt d m := rfl
@[simp] theorem v_er {k : AS} {z : Ex} : (O.er z e m).seq k = .er z e m := rfl
@[simp] theorem v_frt : (O.rt d m).f = .ok d m := rfl
@[simp] theorem v_fnx : (O.nx e m).f = .ok .non m := rfl
@[simp] theorem v_fer {z : Ex} : (O.er z e m).f = .er z m := rfl
theorem v_var (h : e[i]? = some (some d)) : eVar i e m = .ok d m := by unfold eVar; rw [h]
@[simp] theorem v_v0 {z : Option D} {r : Env'} : eVar 0 (some d :: r) m = .ok d m := rfl
@[simp] theorem v_vs {z : Option D} {r : Env'} : eVar (i + 1) (z :: r) m = eVar i r m := rfl
@[simp] theorem v_c : eC d e m = .ok d m := rfl
@[simp] theorem v_op : eOp f a b e m = (a e m).bind fun x m => (b e m).bind fun y m => f x y m := rfl
@[simp] theorem v_un {f1 : F1} : eUn f1 a e m = (a e m).bind f1 := rfl
@[simp] theorem v_nil : aNil e m = .ok [] m := rfl
@[simp] theorem v_cons : aCons a aa e m = (a e m).bind fun x m => (aa e m).bind fun xs m => .ok (x :: xs) m := rfl
@[simp] theorem v_call : eCall fl aa e m = (aa e m).bind fl := rfl
@[simp] theorem v_if : eIf t a b e m = (t e m).bind fun k m => if k = true then a e m else b e m := rfl
@[simp] theorem v_val : tVal a e m = (a e m).bind asB := rfl
@[simp] theorem v_asB {k : Bool} : asB (.bl k) m = .ok k m := rfl
@[simp] theorem v_nt : tNt t e m = (t e m).bind fun k m => .ok (!k) m := rfl
@[simp] theorem v_an : tAn t u e m = (t e m).bind fun k m => if k = true then u e m else .ok false m := rfl
@[simp] theorem v_or : tOrr t u e m = (t e m).bind fun k m => if k = true then .ok true m else u e m := rfl
@[simp] theorem v_eand : eAnd a b e m = ((a e m).bind asB).bind fun k m => if k = true then b e m else .ok (.bl false) m := rfl
@[simp] theorem v_eor : eOr a b e m = ((a e m).bind asB).bind fun k m => if k = true then .ok (.bl true) m else b e m := rfl
@[simp] theorem v_enot : eNot a e m = ((a e m).bind asB).bind fun k m => .ok (.bl (!k)) m := rfl
@[simp] theorem v_chain : eChain f f' a b c e m = (a e m).bind fun x m => (b e m).bind fun y m => ((f x y m).bind asB).bind fun k m => if k = true then (c e m).bind fun z m => f' y z m else .ok (.bl false) m := rfl
@[simp] theorem v_seq : sSeq s s' e m = (s e m).seq s' := rfl
@[simp] theorem v_skip : sSkip e m = .nx e m := rfl
@[simp] theorem v_asg : sAsg a g e m = (a e m).o e fun d m => (g d e m).o e fun e m => .nx e m := rfl
@[simp] theorem v_ret : sRet a e m = (a e m).o e fun d m => .rt d m := rfl
@[simp] theorem v_retN : sRetN e m = .rt .non m := rfl
@[simp] theorem v_exp : sExp a e m = (a e m).o e fun _ m => .nx e m := rfl
@[simp] theorem v_sif : sIf t s s' e m = (t e m).o e fun k m => if k = true then s e m else s' e m := rfl
@[simp] theorem v_gN : gN i d e m = .ok (e.set i (some d)) m := rfl
@[simp] theorem v_gT {n : Nat} {w : AGs} : gT n w (.tup ds) e m = if ds.length = n then (match w ds e m with | .ok e2 m2 => .ok e2 m2 | _ => .no) else .no := rfl
@[simp] theorem v_gsNil : gsNil [] e m = .ok e m := rfl
@[simp] theorem v_gsCons {w : AGs} {r : List D} : gsCons g w (d :: r) e m = match g d e m with | .ok env' m' => (match w r env' m' with | .ok e2 m2 => .ok e2 m2 | _ => .no) | _ => .no := rfl
@[simp] theorem v_gS {F : D → D → D → Mem → R Unit} : gS F a b d e m = (a e m).bind fun x m => (b e m).bind fun y m => match F x y d m with | .ok _ m => .ok e m | _ => .no := rfl
@[simp] theorem v_add {j k : Int} : dAdd (.int j) (.int k) m = .ok (.int (j + k)) m := rfl
@[simp] theorem v_sub {j k : Int} : dSub (.int j) (.int k) m = .ok (.int (j - k)) m := rfl
@[simp] theorem v_cmp {p : Int → Int → Bool} {j k : Int} : dCmp p (.int j) (.int k) m = .ok (.bl (p j k)) m := rfl
theorem v_mul {j k : Int} (h : (-(2 ^ 64) < j ∧ j < 2 ^ 64) ∨ (-(2 ^ 64) < k ∧ k < 2 ^ 64)) : dMul (.int j) (.int k) m = .ok (.int (j * k)) m := if_pos h
theorem v_mod {j k : Int} (h : k ≠ 0) : dMod (.int j) (.int k) m = .ok (.int (j.fmod k)) m := if_pos h
theorem v_fdiv {j k : Int} (h : k ≠ 0 ∧ k.natAbs < 1073741824) : dFdiv (.int j) (.int k) m = .ok (.int (j.fdiv k)) m := if_pos h
@[simp] theorem v_int {j : Int} : bInt [.int j] m = .ok (.int j) m := rfl
@[simp] theorem v_intB {k : Bool} : bInt [.bl k] m = .ok (.int (if k then 1 else 0)) m := rfl
@[simp] theorem v_isi {T : String} : eIsi T a e m = (a e m).bind fun d m => match tyN d m with | some t => (match kitB t T with | some b => .ok (.bl b) m | none => .no) | none => .no := rfl
@[simp] theorem v_raise0 {z : Str} : sRaise0 z e m = .er ⟨z, none⟩ e m := rfl
theorem v_tup (h : ds.length ≤ sizeLine) : mkTup ds m = .ok (.tup ds) m := if_pos h
theorem v_lst (h : ds.length ≤ sizeLine) : mkLst ds m = .ok (.ref m.length) (m ++ [.lst ds]) := if_pos h
theorem v_ixL {n : Nat} {j : Int} (h : m[n]? = some (.lst ds)) (h2 : atI ds j = some d) : dIx (.ref n) (.int j) m = .ok d m := by unfold dIx; simp only [h, h2]
theorem v_ixT {j : Int} (h2 : atI ds j = some d) : dIx (.tup ds) (.int j) m = .ok d m := by unfold dIx; simp only [h2]
theorem v_setL {n j : Nat} {k : Int} (h : m[n]? = some (.lst ds)) (h2 : ixN ds.length k = some j) : dSet (.ref n) (.int k) d m = .ok () (m.set n (.lst (ds.set j d))) := by unfold dSet; simp only [h, h2]
theorem v_lenL {n : Nat} (h : m[n]? = some (.lst ds)) : bLen [.ref n] m = .ok (.int (ds.length : Int)) m := by unfold bLen itemsD; simp only [h]
@[simp] theorem v_lenT : bLen [.tup ds] m = .ok (.int (ds.length : Int)) m := rfl
end
/-! ### what comes out -/
def Ok {α : Type} (r : R α) (Q : α → Mem → Prop) : Prop := match r with
  | .ok d m => Q d m
  | _ => False
def Nx (r : O) (Q : Env' → Mem → Prop) : Prop := match r with
  | .nx d m => Q d m
  | _ => False
section
variable {α β γ : Type} {r : R α} {m : Mem} {e : Env'} {Q : α → Mem → Prop} {Q' : β → Mem → Prop} {K : Env' → Mem → Prop} {s s' : AS}
@[simp] theorem ok_ok {d : α} : Ok (R.ok d m) Q = Q d m := rfl
@[simp] theorem nx_nx : Nx (O.nx e m) K = K e m := rfl
@[simp] theorem bind_bind {f : α → Mem → R β} {k : β → Mem → R γ} : (r.bind f).bind k = r.bind fun d m => (f d m).bind k := by cases r <;> rfl
@[simp] theorem o_bind {f : α → Mem → R β} {k : β → Mem → O} : (r.bind f).o e k = r.o e fun d m => (f d m).o e k := by cases r <;> rfl
@[simp] theorem seq_o {k : α → Mem → O} : (r.o e k).seq s = r.o e fun d m => (k d m).seq s := by cases r <;> rfl
@[simp] theorem f_o {k : α → Mem → O} : (r.o e k).f = r.bind fun d m => (k d m).f := by cases r <;> rfl
theorem ok_bind {f : α → Mem → R β} (h : Ok r fun d m => Ok (f d m) Q') : Ok (r.bind f) Q' := by cases r <;> first | exact h | exact h.elim
theorem nx_o {k : α → Mem → O} (h : Ok r fun d m => Nx (k d m) K) : Nx (r.o e k) K := by cases r <;> first | exact h | exact h.elim
theorem ok_mono {Q2 : α → Mem → Prop} (h : Ok r Q) (k : ∀ d m, Q d m → Q2 d m) : Ok r Q2 := by cases r <;> first | exact k _ _ h | exact h.elim
theorem nx_mono {r : O} {K2 : Env' → Mem → Prop} (h : Nx r K) (k : ∀ d m, K d m → K2 d m) : Nx r K2 := by cases r <;> first | exact k _ _ h | exact h.elim
theorem seq_f {Q : D → Mem → Prop} {o : O} (h : Nx o fun e m => Ok (s' e m).f Q) : Ok (o.seq s').f Q := by cases o <;> first | exact h | exact h.elim
theorem seq_n {o : O} (h : Nx o fun e m => Nx (s' e m) K) : Nx (o.seq s') K := by cases o <;> first | exact h | exact h.elim
theorem ok_ex (h : Ok r Q) : ∃ d m', r = .ok d m' ∧ Q d m' := by cases r <;> first | exact ⟨_, _, rfl, h⟩ | exact h.elim
end
@[simp] theorem kb_ii : kitB "int" "int" = some true := by decide +kernel
@[simp] theorem kb_ib : kitB "int" "bool" = some false := by decide +kernel
@[simp] theorem kb_bi : kitB "bool" "int" = some true := by decide +kernel
@[simp] theorem kb_bb : kitB "bool" "bool" = some true := by decide +kernel
@[simp] theorem kb_ni : kitB "NoneType" "int" = some false := by decide +kernel
@[simp] theorem kb_si : kitB "str" "int" = some false := by decide +kernel
@[simp] theorem kb_ti : kitB "tuple" "int" = some false := by decide +kernel
@[simp] theorem kb_li : kitB "list" "int" = some false := by decide +kernel
@[simp] theorem kb_di : kitB "dict" "int" = some false := by decide +kernel
@[simp] theorem kb_tt : kitB "tuple" "tuple" = some true := by decide +kernel
@[simp] theorem ty_i {j : Int} {m : Mem} : tyN (.int j) m = some "int" := rfl
@[simp] theorem ty_b {j : Bool} {m : Mem} : tyN (.bl j) m = some "bool" := rfl
@[simp] theorem ty_n {m : Mem} : tyN .non m = some "NoneType" := rfl
@[simp] theorem ty_s {s : Str} {m : Mem} : tyN (.str s) m = some "str" := rfl
@[simp] theorem ty_t {s : List D} {m : Mem} : tyN (.tup s) m = some "tuple" := rfl
end Cl
set_option Elab.async false
set_option linter.all false
set_option maxRecDepth 100000
namespace Cl
open PySem PySem.Spec PyProof.Rows L2 Ab
def isI : D → Bool
  | .int _ => true
  | _ => false
theorem w_is_whole {d : D} {m : Mem} {t : String} (h : tyN d m = some t) : f_is_whole [d] m = .ok (.bl (isI d)) m := by
  unfold f_is_whole afOf a_is_whole
  cases d with
  | non => simp [isI]
  | bl b => simp [isI]
  | int i => simp [isI]
  | str s => simp [isI]
  | tup ds => simp [isI]
  | fn f => simp [tyN] at h
  | ref n =>
    have h2 := h
    unfold tyN at h2
    dsimp only at h2
    split at h2 <;> first | (cases h2; simp [isI, h]) | cases h2
def between (d : D) (lo hi : Int) : Bool := match d with
  | .int i => decide (lo ≤ i) && decide (i ≤ hi)
  | _ => false
theorem w_is_between {d : D} {m : Mem} {t : String} {lo hi : Int} (h : tyN d m = some t) : f_is_between [d, .int lo, .int hi] m = .ok (.bl (between d lo hi)) m := by
  unfold f_is_between afOf a_is_between
  simp [w_is_whole h]
  cases d with
  | int i =>
    simp [isI, between]
    by_cases h1 : lo ≤ i <;> simp [h1]
  | _ => simp [isI, between]
theorem toP_int {m : Mem} {f : Nat} {i : Int} : toP m f (.int i) = some (.int i) := by cases f <;> rfl
theorem w_eqI {m : Mem} {i j : Int} : dEq (.int i) (.int j) m = .ok (.bl (decide (i = j))) m := by
  unfold dEq
  rw [toP_int, toP_int]
  dsimp only
  rw [if_pos ⟨rfl, rfl⟩]
  rfl
theorem w_neI {m : Mem} {i j : Int} : dNe (.int i) (.int j) m = .ok (.bl (!decide (i = j))) m := by
  unfold dNe
  rw [toP_int, toP_int]
  dsimp only
  rw [if_pos ⟨rfl, rfl⟩]
  rfl
theorem w_is_row {ds : List D} {m : Mem} {k : Int} : f_is_row [.tup ds, .int k] m = .ok (.bl (decide ((ds.length : Int) = k))) m := by
  unfold f_is_row afOf a_is_row
  simp [w_eqI]
theorem w_is_price_non {m : Mem} (hg : True) : f_is_price [.non] m = .ok (.bl true) m := by
  unfold f_is_price afOf a_is_price
  simp [dIsN]
theorem w_is_price_int {m : Mem} {i : Int} (h1 : 1 ≤ i) (h2 : i ≤ 1000) : f_is_price [.int i] m = .ok (.bl true) m := by
  unfold f_is_price afOf a_is_price
  simp [dIsN, w_is_between (ty_i (m := m)), between, h1, h2]
/-! ### the script's hand -/
def I (n : Nat) : D := .int (n : Int)
def HandOK (h : Nat) (m : Mem) : Prop := ∃ (c : Nat) (cells : List Int) (i big seed cnt : Int), m[h]? = some (.lst [.ref c, .int i, .int big, .int seed, .int cnt]) ∧ c ≠ h ∧ m[c]? = some (.lst (cells.map D.int)) ∧ 0 ≤ i
/-- all but the hand is as it was -/
def Fr (h : Nat) (m m' : Mem) : Prop := ∀ i c, m[i]? = some c → i ≠ h → m'[i]? = some c
theorem Fr.refl {h : Nat} {m : Mem} : Fr h m m := fun _ _ e _ => e
theorem Fr.trans {h : Nat} {m m1 m2 : Mem} (a : Fr h m m1) (b : Fr h m1 m2) : Fr h m m2 := fun i c e n => b i c (a i c e n) n
theorem Fr.set {h : Nat} {m : Mem} {c : Cell} : Fr h m (m.set h c) := fun i _ e n => by rw [List.getElem?_set_ne (Ne.symm n)]; exact e
theorem Fr.add {h : Nat} {m x : Mem} : Fr h m (m ++ x) := fun i c e _ => by rw [List.getElem?_append_left (List.getElem?_eq_some_iff.mp e).1]; exact e
theorem get_set {h : Nat} {m : Mem} {c d : Cell} (e : m[h]? = some d) : (m.set h c)[h]? = some c := by
  rw [List.getElem?_set_self (List.getElem?_eq_some_iff.mp e).1]
theorem h_ix0 {h : Nat} {m : Mem} {a b c d e : D} (hm : m[h]? = some (.lst [a, b, c, d, e])) : dIx (.ref h) (.int 0) m = .ok a m := v_ixL hm rfl
theorem h_iy0 {h : Nat} {m : Mem} {z : Cell} {a b c d e : D} (hm : m[h]? = some z) : dIx (.ref h) (.int 0) (m.set h (.lst [a, b, c, d, e])) = .ok a (m.set h (.lst [a, b, c, d, e])) := v_ixL (get_set hm) rfl
theorem h_sx0 {h : Nat} {m : Mem} {a b c d e x : D} (hm : m[h]? = some (.lst [a, b, c, d, e])) : dSet (.ref h) (.int 0) x m = .ok () (m.set h (.lst [x, b, c, d, e])) := by rw [v_setL hm rfl]; rfl
theorem h_sy0 {h : Nat} {m : Mem} {z : Cell} {a b c d e x : D} (hm : m[h]? = some z) : dSet (.ref h) (.int 0) x (m.set h (.lst [a, b, c, d, e])) = .ok () (m.set h (.lst [x, b, c, d, e])) := by rw [v_setL (get_set hm) rfl, List.set_set]; rfl
theorem h_ix1 {h : Nat} {m : Mem} {a b c d e : D} (hm : m[h]? = some (.lst [a, b, c, d, e])) : dIx (.ref h) (.int 1) m = .ok b m := v_ixL hm rfl
theorem h_iy1 {h : Nat} {m : Mem} {z : Cell} {a b c d e : D} (hm : m[h]? = some z) : dIx (.ref h) (.int 1) (m.set h (.lst [a, b, c, d, e])) = .ok b (m.set h (.lst [a, b, c, d, e])) := v_ixL (get_set hm) rfl
theorem h_sx1 {h : Nat} {m : Mem} {a b c d e x : D} (hm : m[h]? = some (.lst [a, b, c, d, e])) : dSet (.ref h) (.int 1) x m = .ok () (m.set h (.lst [a, x, c, d, e])) := by rw [v_setL hm rfl]; rfl
theorem h_sy1 {h : Nat} {m : Mem} {z : Cell} {a b c d e x : D} (hm : m[h]? = some z) : dSet (.ref h) (.int 1) x (m.set h (.lst [a, b, c, d, e])) = .ok () (m.set h (.lst [a, x, c, d, e])) := by rw [v_setL (get_set hm) rfl, List.set_set]; rfl
theorem h_ix2 {h : Nat} {m : Mem} {a b c d e : D} (hm : m[h]? = some (.lst [a, b, c, d, e])) : dIx (.ref h) (.int 2) m = .ok c m := v_ixL hm rfl
theorem h_iy2 {h : Nat} {m : Mem} {z : Cell} {a b c d e : D} (hm : m[h]? = some z) : dIx (.ref h) (.int 2) (m.set h (.lst [a, b, c, d, e])) = .ok c (m.set h (.lst [a, b, c, d, e])) := v_ixL (get_set hm) rfl
theorem h_sx2 {h : Nat} {m : Mem} {a b c d e x : D} (hm : m[h]? = some (.lst [a, b, c, d, e])) : dSet (.ref h) (.int 2) x m = .ok () (m.set h (.lst [a, b, x, d, e])) := by rw [v_setL hm rfl]; rfl
theorem h_sy2 {h : Nat} {m : Mem} {z : Cell} {a b c d e x : D} (hm : m[h]? = some z) : dSet (.ref h) (.int 2) x (m.set h (.lst [a, b, c, d, e])) = .ok () (m.set h (.lst [a, b, x, d, e])) := by rw [v_setL (get_set hm) rfl, List.set_set]; rfl
theorem h_ix3 {h : Nat} {m : Mem} {a b c d e : D} (hm : m[h]? = some (.lst [a, b, c, d, e])) : dIx (.ref h) (.int 3) m = .ok d m := v_ixL hm rfl
theorem h_iy3 {h : Nat} {m : Mem} {z : Cell} {a b c d e : D} (hm : m[h]? = some z) : dIx (.ref h) (.int 3) (m.set h (.lst [a, b, c, d, e])) = .ok d (m.set h (.lst [a, b, c, d, e])) := v_ixL (get_set hm) rfl
theorem h_sx3 {h : Nat} {m : Mem} {a b c d e x : D} (hm : m[h]? = some (.lst [a, b, c, d, e])) : dSet (.ref h) (.int 3) x m = .ok () (m.set h (.lst [a, b, c, x, e])) := by rw [v_setL hm rfl]; rfl
theorem h_sy3 {h : Nat} {m : Mem} {z : Cell} {a b c d e x : D} (hm : m[h]? = some z) : dSet (.ref h) (.int 3) x (m.set h (.lst [a, b, c, d, e])) = .ok () (m.set h (.lst [a, b, c, x, e])) := by rw [v_setL (get_set hm) rfl, List.set_set]; rfl
theorem h_ix4 {h : Nat} {m : Mem} {a b c d e : D} (hm : m[h]? = some (.lst [a, b, c, d, e])) : dIx (.ref h) (.int 4) m = .ok e m := v_ixL hm rfl
theorem h_iy4 {h : Nat} {m : Mem} {z : Cell} {a b c d e : D} (hm : m[h]? = some z) : dIx (.ref h) (.int 4) (m.set h (.lst [a, b, c, d, e])) = .ok e (m.set h (.lst [a, b, c, d, e])) := v_ixL (get_set hm) rfl
theorem h_sx4 {h : Nat} {m : Mem} {a b c d e x : D} (hm : m[h]? = some (.lst [a, b, c, d, e])) : dSet (.ref h) (.int 4) x m = .ok () (m.set h (.lst [a, b, c, d, x])) := by rw [v_setL hm rfl]; rfl
theorem h_sy4 {h : Nat} {m : Mem} {z : Cell} {a b c d e x : D} (hm : m[h]? = some z) : dSet (.ref h) (.int 4) x (m.set h (.lst [a, b, c, d, e])) = .ok () (m.set h (.lst [a, b, c, d, x])) := by rw [v_setL (get_set hm) rfl, List.set_set]; rfl
theorem w_draw {h : Nat} {m : Mem} {many : Int} (H : HandOK h m) (h0 : 0 < many) (h1 : many < 1073741824) : Ok (f_law_draw [.ref h, .int many] m) fun d m' => ∃ v : Nat, d = I v ∧ (v : Int) < many ∧ Fr h m m' ∧ HandOK h m' := by
  unfold f_law_draw afOf a_law_draw
  rw [v_seq]
  have hk : many ≠ 0 ∧ many.natAbs < 1073741824 := ⟨by omega, by omega⟩
  refine seq_f (nx_mono (K := fun e' m' => (∃ x, e' = [some (.ref h), some (.int many), x, none, none]) ∧ Fr h m m' ∧ HandOK h m') ?_ ?_)
  · obtain ⟨c, cells, i, big, seed, cnt, hm, hc, hcl, hi⟩ := H
    have hl : h < m.length := (List.getElem?_eq_some_iff.mp hm).1
    by_cases hb : big = 0
    · by_cases hlt : i < (cells.length : Int)
      · have hcell : ∃ z : Int, atI (cells.map D.int) i = some (.int z) := by
          refine ⟨cells[i.toNat]'(by omega), ?_⟩
          unfold atI ixN
          rw [if_pos hi, if_pos (by simpa using hlt)]
          simp
        obtain ⟨z, hz⟩ := hcell
        have hb2 := hb
        subst hb2
        simp [h_ix0 hm, h_ix1 hm, h_ix2 hm, h_iy3 hm, h_sx1 hm, h_sy3 hm, h_sy2 hm, v_ixL hcl hz, v_lenL hcl, hlt, w_eqI, dMul, dMod, dPow]
        have key : ∀ (b s : Int), Fr h m (m.set h (.lst [.ref c, .int (i + 1), .int b, .int s, .int cnt])) ∧ HandOK h (m.set h (.lst [.ref c, .int (i + 1), .int b, .int s, .int cnt])) := fun b s => ⟨Fr.set, c, cells, i + 1, b, s, cnt, get_set hm, hc, by rw [List.getElem?_set_ne (Ne.symm hc)]; exact hcl, by omega⟩
        split
        · simp [h_sy2 hm]
          exact key _ _
        · simp
          exact key _ _
      · have hb2 := hb
        subst hb2
        simp [h_ix0 hm, h_ix1 hm, h_ix2 hm, v_lenL hcl, hlt, w_eqI]
        exact ⟨Fr.refl, c, cells, i, 0, seed, cnt, hm, hc, hcl, hi⟩
    · simp [h_ix2 hm, hb, w_eqI]
      exact ⟨Fr.refl, c, cells, i, big, seed, cnt, hm, hc, hcl, hi⟩
  · intro e' m' h2
    obtain ⟨⟨x, rfl⟩, hF, c, cells, i, big, seed, cnt, hm, hc, hcl, hi⟩ := h2
    have hl : h < m'.length := (List.getElem?_eq_some_iff.mp hm).1
    have key : ∀ (b n : Int), Fr h m (m'.set h (.lst [.ref c, .int i, .int b, .int seed, .int n])) ∧ HandOK h (m'.set h (.lst [.ref c, .int i, .int b, .int seed, .int n])) := fun b n => ⟨hF.trans Fr.set, c, cells, i, b, seed, n, get_set hm, hc, by rw [List.getElem?_set_ne (Ne.symm hc)]; exact hcl, hi⟩
    have out : ∀ z : Int, ∃ v : Nat, D.int (z.fmod many) = I v ∧ (v : Int) < many := fun z => by
      have h2 : 0 ≤ z.fmod many := Int.fmod_nonneg_of_pos _ h0
      have h3 : z.fmod many < many := Int.fmod_lt_of_pos _ h0
      exact ⟨(z.fmod many).toNat, by unfold I; rw [Int.toNat_of_nonneg h2], by rw [Int.toNat_of_nonneg h2]; exact h3⟩
    by_cases hb : 0 < big
    · simp [h_ix2 hm, hb, h_sx2 hm, v_mod hk.1, v_fdiv hk]
      obtain ⟨v, h3, h4⟩ := out big
      exact ⟨v, h3, h4, key _ _⟩
    · have m1 : ∀ (w : Int) (m : Mem), dMul (.int 7919) (.int w) m = .ok (.int (7919 * w)) m := fun w m => v_mul (.inl (by decide))
      have m2 : ∀ (w : Int) (m : Mem), dMul (.int w) (.int 48271) m = .ok (.int (w * 48271)) m := fun w m => v_mul (.inr (by decide))
      have m3 : ∀ (z w : Int) (m : Mem), dMul (.int (Int.fmod z 2147483647)) (.int w) m = .ok (.int (Int.fmod z 2147483647 * w)) m := fun z w m => v_mul (.inl (by
        have h2 : 0 ≤ z.fmod 2147483647 := Int.fmod_nonneg_of_pos _ (by decide)
        have h3 : z.fmod 2147483647 < 2147483647 := Int.fmod_lt_of_pos _ (by decide)
        omega))
      have q1 : ∀ (w : Int) (m : Mem), dMod (.int w) (.int 2147483647) m = .ok (.int (w.fmod 2147483647)) m := fun w m => v_mod (by decide)
      have q2 : ∀ (w : Int) (m : Mem), dMod (.int w) (.int 2147483399) m = .ok (.int (w.fmod 2147483399)) m := fun w m => v_mod (by decide)
      have r1 : ∀ (w : Int) (m : Mem), dFdiv (.int w) (.int 1009) m = .ok (.int (w.fdiv 1009)) m := fun w m => v_fdiv ⟨by decide, by decide⟩
      have r2 : ∀ (w : Int) (m : Mem), dFdiv (.int w) (.int 2003) m = .ok (.int (w.fdiv 2003)) m := fun w m => v_fdiv ⟨by decide, by decide⟩
      have r3 : ∀ (w : Int) (m : Mem), dFdiv (.int w) (.int 16) m = .ok (.int (w.fdiv 16)) m := fun w m => v_fdiv ⟨by decide, by decide⟩
      simp [h_ix2 hm, h_ix4 hm, hb, h_sx4 hm, h_iy3 hm, h_iy4 hm, v_mod hk.1, m1, m2, m3, q1, q2, r1, r2, r3]
      obtain ⟨v, h3, h4⟩ := out (Int.fdiv (Int.fmod (Int.fmod (Int.fmod ((seed + 7919 * (cnt + 1)) * 48271) 2147483647 * (Int.fdiv (Int.fmod ((seed + 7919 * (cnt + 1)) * 48271) 2147483647) 1009 + 69621)) 2147483647 * (Int.fdiv (Int.fmod (Int.fmod ((seed + 7919 * (cnt + 1)) * 48271) 2147483647 * (Int.fdiv (Int.fmod ((seed + 7919 * (cnt + 1)) * 48271) 2147483647) 1009 + 69621)) 2147483647) 2003 + 40692)) 2147483399) 16)
      exact ⟨v, h3, h4, key _ _⟩
/-- the hand, its cells at c -/
def HandC (h c : Nat) (m : Mem) : Prop := ∃ (cells : List Int) (i big seed cnt : Int), m[h]? = some (.lst [.ref c, .int i, .int big, .int seed, .int cnt]) ∧ c ≠ h ∧ m[c]? = some (.lst (cells.map D.int)) ∧ 0 ≤ i
theorem HandC.ok {h c : Nat} {m : Mem} (H : HandC h c m) : HandOK h m := by
  obtain ⟨cells, i, big, seed, cnt, h1, h2, h3, h4⟩ := H
  exact ⟨c, cells, i, big, seed, cnt, h1, h2, h3, h4⟩
theorem HandOK.ex {h : Nat} {m : Mem} (H : HandOK h m) : ∃ c, HandC h c m := by
  obtain ⟨c, cells, i, big, seed, cnt, h1, h2, h3, h4⟩ := H
  exact ⟨c, cells, i, big, seed, cnt, h1, h2, h3, h4⟩
theorem w_drawC {h c : Nat} {m : Mem} {many : Int} (H : HandC h c m) (h0 : 0 < many) (h1 : many < 1073741824) : Ok (f_law_draw [.ref h, .int many] m) fun d m' => ∃ v : Nat, d = I v ∧ (v : Int) < many ∧ Fr h m m' ∧ HandC h c m' := by
  unfold f_law_draw afOf a_law_draw
  rw [v_seq]
  have hk : many ≠ 0 ∧ many.natAbs < 1073741824 := ⟨by omega, by omega⟩
  refine seq_f (nx_mono (K := fun e' m' => (∃ x, e' = [some (.ref h), some (.int many), x, none, none]) ∧ Fr h m m' ∧ HandC h c m') ?_ ?_)
  · obtain ⟨cells, i, big, seed, cnt, hm, hc, hcl, hi⟩ := H
    have hl : h < m.length := (List.getElem?_eq_some_iff.mp hm).1
    by_cases hb : big = 0
    · by_cases hlt : i < (cells.length : Int)
      · have hcell : ∃ z : Int, atI (cells.map D.int) i = some (.int z) := by
          refine ⟨cells[i.toNat]'(by omega), ?_⟩
          unfold atI ixN
          rw [if_pos hi, if_pos (by simpa using hlt)]
          simp
        obtain ⟨z, hz⟩ := hcell
        have hb2 := hb
        subst hb2
        simp [h_ix0 hm, h_ix1 hm, h_ix2 hm, h_iy3 hm, h_sx1 hm, h_sy3 hm, h_sy2 hm, v_ixL hcl hz, v_lenL hcl, hlt, w_eqI, dMul, dMod, dPow]
        have key : ∀ (b s : Int), Fr h m (m.set h (.lst [.ref c, .int (i + 1), .int b, .int s, .int cnt])) ∧ HandC h c (m.set h (.lst [.ref c, .int (i + 1), .int b, .int s, .int cnt])) := fun b s => ⟨Fr.set, cells, i + 1, b, s, cnt, get_set hm, hc, by rw [List.getElem?_set_ne (Ne.symm hc)]; exact hcl, by omega⟩
        split
        · simp [h_sy2 hm]
          exact key _ _
        · simp
          exact key _ _
      · have hb2 := hb
        subst hb2
        simp [h_ix0 hm, h_ix1 hm, h_ix2 hm, v_lenL hcl, hlt, w_eqI]
        exact ⟨Fr.refl, cells, i, 0, seed, cnt, hm, hc, hcl, hi⟩
    · simp [h_ix2 hm, hb, w_eqI]
      exact ⟨Fr.refl, cells, i, big, seed, cnt, hm, hc, hcl, hi⟩
  · intro e' m' h2
    obtain ⟨⟨x, rfl⟩, hF, cells, i, big, seed, cnt, hm, hc, hcl, hi⟩ := h2
    have hl : h < m'.length := (List.getElem?_eq_some_iff.mp hm).1
    have key : ∀ (b n : Int), Fr h m (m'.set h (.lst [.ref c, .int i, .int b, .int seed, .int n])) ∧ HandC h c (m'.set h (.lst [.ref c, .int i, .int b, .int seed, .int n])) := fun b n => ⟨hF.trans Fr.set, cells, i, b, seed, n, get_set hm, hc, by rw [List.getElem?_set_ne (Ne.symm hc)]; exact hcl, hi⟩
    have out : ∀ z : Int, ∃ v : Nat, D.int (z.fmod many) = I v ∧ (v : Int) < many := fun z => by
      have h2 : 0 ≤ z.fmod many := Int.fmod_nonneg_of_pos _ h0
      have h3 : z.fmod many < many := Int.fmod_lt_of_pos _ h0
      exact ⟨(z.fmod many).toNat, by unfold I; rw [Int.toNat_of_nonneg h2], by rw [Int.toNat_of_nonneg h2]; exact h3⟩
    by_cases hb : 0 < big
    · simp [h_ix2 hm, hb, h_sx2 hm, v_mod hk.1, v_fdiv hk]
      obtain ⟨v, h3, h4⟩ := out big
      exact ⟨v, h3, h4, key _ _⟩
    · have m1 : ∀ (w : Int) (m : Mem), dMul (.int 7919) (.int w) m = .ok (.int (7919 * w)) m := fun w m => v_mul (.inl (by decide))
      have m2 : ∀ (w : Int) (m : Mem), dMul (.int w) (.int 48271) m = .ok (.int (w * 48271)) m := fun w m => v_mul (.inr (by decide))
      have m3 : ∀ (z w : Int) (m : Mem), dMul (.int (Int.fmod z 2147483647)) (.int w) m = .ok (.int (Int.fmod z 2147483647 * w)) m := fun z w m => v_mul (.inl (by
        have h2 : 0 ≤ z.fmod 2147483647 := Int.fmod_nonneg_of_pos _ (by decide)
        have h3 : z.fmod 2147483647 < 2147483647 := Int.fmod_lt_of_pos _ (by decide)
        omega))
      have q1 : ∀ (w : Int) (m : Mem), dMod (.int w) (.int 2147483647) m = .ok (.int (w.fmod 2147483647)) m := fun w m => v_mod (by decide)
      have q2 : ∀ (w : Int) (m : Mem), dMod (.int w) (.int 2147483399) m = .ok (.int (w.fmod 2147483399)) m := fun w m => v_mod (by decide)
      have r1 : ∀ (w : Int) (m : Mem), dFdiv (.int w) (.int 1009) m = .ok (.int (w.fdiv 1009)) m := fun w m => v_fdiv ⟨by decide, by decide⟩
      have r2 : ∀ (w : Int) (m : Mem), dFdiv (.int w) (.int 2003) m = .ok (.int (w.fdiv 2003)) m := fun w m => v_fdiv ⟨by decide, by decide⟩
      have r3 : ∀ (w : Int) (m : Mem), dFdiv (.int w) (.int 16) m = .ok (.int (w.fdiv 16)) m := fun w m => v_fdiv ⟨by decide, by decide⟩
      simp [h_ix2 hm, h_ix4 hm, hb, h_sx4 hm, h_iy3 hm, h_iy4 hm, v_mod hk.1, m1, m2, m3, q1, q2, r1, r2, r3]
      obtain ⟨v, h3, h4⟩ := out (Int.fdiv (Int.fmod (Int.fmod (Int.fmod ((seed + 7919 * (cnt + 1)) * 48271) 2147483647 * (Int.fdiv (Int.fmod ((seed + 7919 * (cnt + 1)) * 48271) 2147483647) 1009 + 69621)) 2147483647 * (Int.fdiv (Int.fmod (Int.fmod ((seed + 7919 * (cnt + 1)) * 48271) 2147483647 * (Int.fdiv (Int.fmod ((seed + 7919 * (cnt + 1)) * 48271) 2147483647) 1009 + 69621)) 2147483647) 2003 + 40692)) 2147483399) 16)
      exact ⟨v, h3, h4, key _ _⟩
end Cl
set_option Elab.async false
set_option linter.all false
set_option maxRecDepth 100000
namespace Cl
open PySem PySem.Spec PyProof.Rows L2 Ab
/-! ### rows of ints -/
def pI (n : Nat) : PyData := .int (n : Int)
theorem canI : ∀ l : List Nat, PyData.canLayAll0 (l.map pI) = true
  | [] => by simp [PyData.canLayAll0]
  | x :: l => by
    have := canI l
    simp [PyData.canLayAll0, PyData.canLay0, pI, this]
theorem depI : ∀ l : List Nat, PyData.depthAll (l.map pI) = 0
  | [] => by simp [PyData.depthAll]
  | x :: l => by
    have := depI l
    simp [PyData.depthAll, PyData.depth, pI, this]
theorem shapedL (l : List Nat) : SeqAt.shaped (.list (l.map pI)) = true := by
  simp [SeqAt.shaped, PyData.canLay0, PyData.depth, canI, depI]
theorem shapedT (l : List Nat) : SeqAt.shaped (.tuple (l.map pI)) = true := by
  simp [SeqAt.shaped, PyData.canLay0, PyData.depth, canI, depI]
theorem mapI {m : Mem} {f : Nat} : ∀ l : List Nat, (l.map I).mapM (toP m f) = some (l.map pI)
  | [] => rfl
  | x :: l => by
    rw [List.map_cons, List.mapM_cons, mapI l]
    show (toP m f (.int x)).bind _ = _
    rw [toP_int]; rfl
theorem toP_lst {m : Mem} {n : Nat} {l : List Nat} (h : m[n]? = some (.lst (l.map I))) : toP m DEEP (.ref n) = some (.list (l.map pI)) := by
  show (match m[n]? with | some (.lst ds) => (ds.mapM (toP m 69)).map PyData.list | some (.rol ds) => (ds.mapM (toP m 69)).map PyData.list | _ => none) = _
  rw [h]
  dsimp only
  rw [mapI]; rfl
theorem toP_tup {m : Mem} {l : List Nat} : toP m DEEP (.tup (l.map I)) = some (.tuple (l.map pI)) := by
  show ((l.map I).mapM (toP m 69)).map PyData.tuple = _
  rw [mapI]; rfl
theorem eqvI (x y : Nat) : PyData.eqv (pI x) (pI y) = decide (x = y) := by
  show ((x : Int) == (y : Int)) = _
  by_cases h : x = y
  · subst h; simp
  · rw [decide_eq_false h]
    exact beq_eq_false_iff_ne.mpr fun z => h (by omega)
theorem findI {e : Nat} : ∀ {l : List Nat}, e ∈ l → (l.map pI).findIdx? (fun z => PyData.eqv z (pI e)) = some (l.idxOf e)
  | x :: l, h => by
    rw [List.map_cons, List.findIdx?_cons, eqvI]
    by_cases z : x = e
    · subst z; simp
    · rw [decide_eq_false z]
      have hm : e ∈ l := by rcases List.mem_cons.mp h with q | q; exact absurd q.symm z; exact q
      rw [findI hm]
      rw [List.idxOf_cons, beq_eq_false_iff_ne.mpr z]; rfl
theorem w_index {m : Mem} {n : Nat} {l : List Nat} {e : Nat} (h : m[n]? = some (.lst (l.map I))) (he : e ∈ l) : mIndex (.ref n) [I e] m = .ok (I (l.idxOf e)) m := by
  unfold mIndex
  dsimp only
  rw [toP_lst h, show toP m DEEP (I e) = some (pI e) from toP_int]
  dsimp only
  rw [if_pos ⟨shapedL l, rfl⟩, findI he]
  rfl
/-- what was there is there, at its place -/
def Pre (m m' : Mem) : Prop := ∀ (i : Nat) (c : Cell), m[i]? = some c → m'[i]? = some c
theorem Pre.refl {m : Mem} : Pre m m := fun _ _ e => e
theorem Pre.add {m x : Mem} : Pre m (m ++ x) := fun i c e => by rw [List.getElem?_append_left (List.getElem?_eq_some_iff.mp e).1]; exact e
theorem Pre.trans {m m1 m2 : Mem} (a : Pre m m1) (b : Pre m1 m2) : Pre m m2 := fun i c e => b i c (a i c e)
theorem Pre.fr {h : Nat} {m m' : Mem} (a : Pre m m') : Fr h m m' := fun i c e _ => a i c e
theorem Pre.len {m m' : Mem} (a : Pre m m') : m.length ≤ m'.length := by
  cases h : m.length with
  | zero => omega
  | succ k =>
    have hk : k < m.length := by omega
    have := (List.getElem?_eq_some_iff.mp (a k m[k] (List.getElem?_eq_getElem hk))).1
    omega
theorem HandOK.pre {h : Nat} {m m' : Mem} (H : HandOK h m) (a : Pre m m') : HandOK h m' := by
  obtain ⟨c, cells, i, big, seed, cnt, h1, h2, h3, h4⟩ := H
  exact ⟨c, cells, i, big, seed, cnt, a _ _ h1, h2, a _ _ h3, h4⟩
theorem new_get {m : Mem} {c : Cell} : (m ++ [c])[m.length]? = some c := by simp
theorem cut_lo {α : Type} (xs : List α) (k : Nat) : Ab.cutD xs none (some (k : Int)) = xs.take k := by
  unfold Ab.cutD
  rw [HT.sIx_nat]
  simp [HT.sIx]
theorem cut_hi {α : Type} (xs : List α) (k : Nat) : Ab.cutD xs (some (k : Int)) none = xs.drop k := by
  unfold Ab.cutD
  rw [HT.sIx_nat]
  simp only [HT.sIx]
  by_cases h : k ≤ xs.length
  · rw [Nat.min_eq_left h]
    exact List.take_of_length_le (by simp)
  · rw [Nat.min_eq_right (by omega), List.drop_length, List.drop_eq_nil_of_le (by omega)]
    simp
theorem w_slL {m : Mem} {n : Nat} {ds : List D} {lo hi : Option Int} (h : m[n]? = some (.lst ds)) : dSl (.ref n) lo hi m = .ok (.ref m.length) (m ++ [.lst (Ab.cutD ds lo hi)]) := by unfold dSl; simp only [h]
theorem w_catL {m : Mem} {p q : Nat} {a b : List D} (h : m[p]? = some (.lst a)) (h2 : m[q]? = some (.lst b)) (hl : a.length + b.length ≤ sizeLine) : dAdd (.ref p) (.ref q) m = .ok (.ref m.length) (m ++ [.lst (a ++ b)]) := by
  unfold dAdd; simp only [h, h2]; exact if_pos hl
theorem w_mt {ty : D → Mem → Bool} {F : D → FL} {a : AE} {aa : AA} {e : Env'} {m : Mem} : eMt ty F a aa e m = (a e m).bind fun x m => if ty x m = true then (aa e m).bind fun xs m => F x xs m else .no := rfl
theorem w_isL {m : Mem} {n : Nat} {ds : List D} (h : m[n]? = some (.lst ds)) : isL (.ref n) m = true := by unfold isL; simp only [h]
theorem w_sl {a : AE} {lo hi : AO} {e : Env'} {m : Mem} : eSl a lo hi e m = (a e m).bind fun x m => (lo e m).bind fun l m => (hi e m).bind fun h m => dSl x l h m := rfl
@[simp] theorem w_oN {e : Env'} {m : Mem} : oNone e m = .ok none m := rfl
theorem w_oS {e : Env'} {m : Mem} {a : AE} : oSome a e m = (a e m).bind fun d m => match d with | .int i => .ok (some i) m | _ => .no := rfl
theorem w_other (e : Nat) (m : Mem) : f_law_other [I e] m = .ok (I (Ch.o e)) m := by
  unfold f_law_other afOf a_law_other
  have m1 : ∀ (w : Int) (m : Mem), dMul (.int 2) (.int w) m = .ok (.int (2 * w)) m := fun w m => v_mul (.inl (by decide))
  have q1 : ∀ (w : Int) (m : Mem), dMod (.int w) (.int 2) m = .ok (.int (w.fmod 2)) m := fun w m => v_mod (by decide)
  simp [I, m1, q1]
  rw [Int.fmod_eq_emod_of_nonneg _ (by decide)]
  unfold Ch.o
  split <;> omega
theorem w_put {m : Mem} {n : Nat} {l : List Nat} {e x : Nat} (h : m[n]? = some (.lst (l.map I))) (he : e ∈ l) (hl : l.length < 1000) : Ok (f_law_put_behind [.ref n, I e, I x] m) fun d m' => ∃ k, d = .ref k ∧ Pre m m' ∧ m.length ≤ k ∧ m'[k]? = some (.lst ((Ch.put l e x).map I)) := by
  have hz : sizeLine = 2 ^ 24 := rfl
  unfold f_law_put_behind afOf a_law_put_behind
  obtain ⟨j, hj⟩ : ∃ j, j = l.idxOf e := ⟨_, rfl⟩
  obtain ⟨m1, hm1⟩ : ∃ m1, m1 = m ++ [Cell.lst ((l.map I).take (j + 1))] := ⟨_, rfl⟩
  obtain ⟨m2, hm2⟩ : ∃ m2, m2 = m1 ++ [Cell.lst [I x]] := ⟨_, rfl⟩
  obtain ⟨m3, hm3⟩ : ∃ m3, m3 = m2 ++ [Cell.lst ((l.map I).take (j + 1) ++ [I x])] := ⟨_, rfl⟩
  obtain ⟨m4, hm4⟩ : ∃ m4, m4 = m3 ++ [Cell.lst ((l.map I).drop (j + 1))] := ⟨_, rfl⟩
  have p1 : Pre m m1 := by rw [hm1]; exact .add
  have p2 : Pre m1 m2 := by rw [hm2]; exact .add
  have p3 : Pre m2 m3 := by rw [hm3]; exact .add
  have p4 : Pre m3 m4 := by rw [hm4]; exact .add
  have g1 : m1[m.length]? = some (.lst ((l.map I).take (j + 1))) := by rw [hm1]; exact new_get
  have g2 : m2[m1.length]? = some (.lst [I x]) := by rw [hm2]; exact new_get
  have g3 : m3[m2.length]? = some (.lst ((l.map I).take (j + 1) ++ [I x])) := by rw [hm3]; exact new_get
  have g4 : m4[m3.length]? = some (.lst ((l.map I).drop (j + 1))) := by rw [hm4]; exact new_get
  have s1 : dSl (.ref n) none (some ((j : Int) + 1)) m = .ok (.ref m.length) m1 := by
    rw [w_slL h, hm1]
    have := cut_lo (l.map I) (j + 1)
    rw [← this]; rfl
  have s2 : mkLst [I x] m1 = .ok (.ref m1.length) m2 := by rw [hm2]; exact v_lst (by rw [hz]; simp)
  have s3 : dAdd (.ref m.length) (.ref m1.length) m2 = .ok (.ref m2.length) m3 := by
    rw [hm3]; exact w_catL (p2 _ _ g1) g2 (by rw [hz]; simp; omega)
  have s4 : dSl (.ref n) (some ((j : Int) + 1)) none m3 = .ok (.ref m3.length) m4 := by
    rw [w_slL (p3 _ _ (p2 _ _ (p1 _ _ h))), hm4]
    have := cut_hi (l.map I) (j + 1)
    rw [← this]; rfl
  have s5 : dAdd (.ref m2.length) (.ref m3.length) m4 = .ok (.ref m4.length) (m4 ++ [.lst ((l.map I).take (j + 1) ++ [I x] ++ (l.map I).drop (j + 1))]) :=
    w_catL (p4 _ _ g3) g4 (by rw [hz]; simp; omega)
  have ij : I j = .int (j : Int) := rfl
  simp [w_mt, w_isL h, w_index h he, ← hj, w_sl, w_oS, ij, s1, s2, s3, s4, s5]
  refine ⟨((((p1.trans p2).trans p3).trans p4).trans .add), ?_, ?_⟩
  · exact (((p1.trans p2).trans p3).trans p4).len
  · unfold Ch.put
    rw [← hj]; simp
end Cl
set_option Elab.async false
set_option linter.all false
set_option maxRecDepth 100000
namespace Cl
open PySem PySem.Spec PyProof.Rows L2 Ab
def Rt (o : O) (Q : D → Mem → Prop) : Prop := match o with
  | .rt d m => Q d m
  | _ => False
section
variable {α : Type} {r : R α} {m : Mem} {e e2 : Env'} {Q : D → Mem → Prop} {s s' : AS}
@[simp] theorem rt_rt {d : D} : Rt (O.rt d m) Q = Q d m := rfl
theorem rt_f {o : O} (h : Rt o Q) : Ok (o.seq s).f Q := by cases o <;> first | exact h | exact h.elim
theorem rt_seq {o : O} (h : Nx o fun e m => Rt (s e m) Q) : Rt (o.seq s) Q := by cases o <;> first | exact h | exact h.elim
theorem rt_mono {o : O} {Q2 : D → Mem → Prop} (h : Rt o Q) (k : ∀ d m, Q d m → Q2 d m) : Rt o Q2 := by cases o <;> first | exact k _ _ h | exact h.elim
theorem forL_rt {tg : AG} {b : AS} {gd : Gd} {d : D} {l : List D} (hg : gd.Ok m) (ht : tg d e m = .ok e2 m) (h : Rt (b e2 m) Q) : Rt (forL tg b gd (d :: l) e m) Q := by
  unfold forL
  rw [if_pos hg, ht]
  show Rt (match b e2 m with | .nx e m => forL tg b gd l e m | .ct e m => forL tg b gd l e m | .bk e m => .nx e m | .rt d m => .rt d m | .er x e m => .er x e m | .no => .no) Q
  cases h2 : b e2 m with
  | rt d m => rw [h2] at h; exact h
  | _ => rw [h2] at h; exact h.elim
theorem gd_nil : Gd.Ok [] m := fun p hp => by cases hp
theorem w_for {it : AI} {tg : AG} {b : AS} : sFor it tg b e m = (it e m).o e fun p m => forL tg b p.2 p.1 e m := rfl
theorem w_iE {a : AE} : iE a e m = (a e m).bind itD := rfl
@[simp] theorem w_itT {ds : List D} : itD (.tup ds) m = .ok (ds, []) m := rfl
end
def pD (p : Nat × Nat) : D := .tup [I p.1, I p.2]
structure ChM (h : Nat) (m : Mem) (ra rr : Nat) (arr : List (Nat × Nat)) (rs : List (List Nat)) : Prop where
  ha : m[ra]? = some (.lst (arr.map pD))
  na : ra ≠ h
  nr : rr ≠ h
  hr : ∃ ks : List Nat, m[rr]? = some (.lst (ks.map D.ref)) ∧ ks.length = rs.length ∧ ∀ (i k : Nat) (r : List Nat), ks[i]? = some k → rs[i]? = some r → m[k]? = some (.lst (r.map I)) ∧ k ≠ h
theorem ChM.fr {h : Nat} {m m' : Mem} {ra rr : Nat} {arr : List (Nat × Nat)} {rs : List (List Nat)} (C : ChM h m ra rr arr rs) (a : Fr h m m') : ChM h m' ra rr arr rs := by
  obtain ⟨ks, h1, h2, h3⟩ := C.hr
  exact ⟨a _ _ C.ha C.na, C.na, C.nr, ks, a _ _ h1 C.nr, h2, fun i k r e1 e2 => ⟨a _ _ (h3 i k r e1 e2).1 (h3 i k r e1 e2).2, (h3 i k r e1 e2).2⟩⟩
/-- the place of an end -/
def pl (arr : List (Nat × Nat)) (e : Nat) : Nat := match arr[e / 2]? with
  | some p => if e % 2 = 0 then p.1 else p.2
  | none => 0
def Conn (arr : List (Nat × Nat)) (N : Nat) : Prop := ∀ S : Nat → Prop, S 0 → (∀ p ∈ arr, S p.1 ↔ S p.2) → ∀ x, x < N → S x
structure G (arr : List (Nat × Nat)) (rs : List (List Nat)) : Prop where
  flat : ∃ rims, Ch.Flat rs rims (2 * arr.length) ∧ rs.length + rims.length = arr.length + 2
  pos : 0 < arr.length
  at' : ∀ e, e < 2 * arr.length → ∃ r, rs[pl arr e]? = some r ∧ e ∈ r
  conn : Conn arr rs.length
theorem pl_old {arr : List (Nat × Nat)} {p : Nat × Nat} {e : Nat} (h : e < 2 * arr.length) : pl (arr ++ [p]) e = pl arr e := by
  unfold pl
  rw [List.getElem?_append_left (by omega)]
theorem pl_new0 {arr : List (Nat × Nat)} {p : Nat × Nat} : pl (arr ++ [p]) (2 * arr.length) = p.1 := by
  unfold pl
  rw [List.getElem?_append_right (by omega)]
  have : 2 * arr.length / 2 - arr.length = 0 := by omega
  rw [this]
  simp
theorem pl_new1 {arr : List (Nat × Nat)} {p : Nat × Nat} : pl (arr ++ [p]) (2 * arr.length + 1) = p.2 := by
  unfold pl
  rw [List.getElem?_append_right (by omega)]
  have : (2 * arr.length + 1) / 2 - arr.length = 0 := by omega
  rw [this]
  have : ¬ (2 * arr.length + 1) % 2 = 0 := by omega
  simp [this]
theorem putIn_at {rs : List (List Nat)} {p e x : Nat} {r : List Nat} (h : rs[p]? = some r) (he : e ∈ r) : Ch.PutIn rs e x (rs.set p (Ch.put r e x)) := by
  have hp : p < rs.length := (List.getElem?_eq_some_iff.mp h).1
  have hr : rs[p] = r := (List.getElem?_eq_some_iff.mp h).2
  refine ⟨rs.take p, r, rs.drop (p + 1), ?_, he, ?_⟩
  · rw [← hr, List.getElem_cons_drop, List.take_append_drop]
  · rw [List.set_eq_take_append_cons_drop, if_pos hp]
theorem put_mem {r : List Nat} {e x y : Nat} : y ∈ Ch.put r e x ↔ y = x ∨ y ∈ r := by rw [Ch.put_perm.mem_iff, List.mem_cons]
/-- hanging -/
theorem G.hang {arr : List (Nat × Nat)} {rs : List (List Nat)} (g : G arr rs) {e x : Nat} {r : List Nat} (he : e < 2 * arr.length) (hr : rs[pl arr e]? = some r) (hx : x = 2 * arr.length ∨ x = 2 * arr.length + 1) :
    G (arr ++ [if x % 2 = 0 then (pl arr e, rs.length) else (rs.length, pl arr e)]) (rs.set (pl arr e) (Ch.put r e x) ++ [[Ch.o x]]) := by
  obtain ⟨rims, F, hF⟩ := g.flat
  have hp : pl arr e < rs.length := (List.getElem?_eq_some_iff.mp hr).1
  have her : e ∈ r := by
    obtain ⟨r', h1, h2⟩ := g.at' e he
    rw [hr] at h1; cases h1; exact h2
  obtain ⟨rims', h1, h2⟩ := F.hang he (putIn_at (x := x) hr her) hx
  refine ⟨⟨rims', by simpa [Nat.mul_add] using h2, by simp; omega⟩, by simp, fun y hy => ?_, fun S h0 hS z hz => ?_⟩
  · by_cases hy2 : y < 2 * arr.length
    · rw [pl_old hy2]
      obtain ⟨q, q1, q2⟩ := g.at' y hy2
      have hq : pl arr y < rs.length := (List.getElem?_eq_some_iff.mp q1).1
      rw [List.getElem?_append_left (by simpa using hq)]
      by_cases z : pl arr e = pl arr y
      · rw [← z] at q1 ⊢
        rw [hr] at q1; cases q1
        exact ⟨_, List.getElem?_set_self hp, put_mem.mpr (.inr q2)⟩
      · rw [List.getElem?_set_ne z]
        exact ⟨q, q1, q2⟩
    · have hy3 : y = x ∨ y = Ch.o x := by
        have : y = 2 * arr.length ∨ y = 2 * arr.length + 1 := by simp at hy; omega
        have ev : (2 * arr.length) % 2 = 0 := by omega
        rcases hx with rfl | rfl
        · rw [Ch.o_ev ev]; exact this
        · rw [Ch.o_od ev]; exact this.symm
      have ev : (2 * arr.length) % 2 = 0 := by omega
      have px : pl (arr ++ [if x % 2 = 0 then (pl arr e, rs.length) else (rs.length, pl arr e)]) x = pl arr e ∧ pl (arr ++ [if x % 2 = 0 then (pl arr e, rs.length) else (rs.length, pl arr e)]) (Ch.o x) = rs.length := by
        rcases hx with rfl | rfl
        · rw [Ch.o_ev ev, pl_new0, pl_new1, if_pos ev]; exact ⟨rfl, rfl⟩
        · rw [Ch.o_od ev, pl_new0, pl_new1, if_neg (by omega)]; exact ⟨rfl, rfl⟩
      rcases hy3 with rfl | rfl
      · rw [px.1, List.getElem?_append_left (by simpa using hp)]
        exact ⟨_, List.getElem?_set_self hp, put_mem.mpr (.inl rfl)⟩
      · rw [px.2, List.getElem?_append_right (by simp)]
        exact ⟨[Ch.o x], by simp, by simp⟩
  · have old : ∀ z, z < rs.length → S z := fun z hz => g.conn S h0 (fun p hp => hS p (List.mem_append_left _ hp)) z hz
    simp at hz
    by_cases z2 : z < rs.length
    · exact old z z2
    · have z3 : z = rs.length := by omega
      subst z3
      have := hS _ (List.mem_append_right _ List.mem_cons_self)
      split at this
      · exact this.mp (old _ hp)
      · exact this.mpr (old _ hp)
end Cl
set_option Elab.async false
set_option linter.all false
set_option maxRecDepth 100000
namespace Cl
open PySem PySem.Spec PyProof.Rows L2 Ab
theorem G.row {arr : List (Nat × Nat)} {rs : List (List Nat)} (g : G arr rs) {r : List Nat} (h : r ∈ rs) : r.length ≤ 2 * arr.length := by
  obtain ⟨rims, F, _⟩ := g.flat
  have h1 := F.rN.length_eq
  rw [List.length_range] at h1
  obtain ⟨s, t, rfl⟩ := Ch.mem_cut h
  simp [List.length_flatten] at h1
  omega
theorem G.rows {arr : List (Nat × Nat)} {rs : List (List Nat)} (g : G arr rs) : rs.length ≤ arr.length + 1 := by
  obtain ⟨rims, F, h⟩ := g.flat
  have h1 : 0 < rims.length := by
    cases rims with
    | nil =>
      have := F.mN.length_eq
      simp at this
      have := g.pos
      omega
    | cons a l => simp
  omega
theorem atI_nat {α : Type} {xs : List α} {i : Nat} {x : α} (h : xs[i]? = some x) : atI xs (i : Int) = some x := by
  have hi := (List.getElem?_eq_some_iff.mp h).1
  unfold atI ixN
  rw [if_pos (by omega), if_pos (by omega)]
  simpa using h
theorem w_placeOf {m : Mem} {ra : Nat} {arr : List (Nat × Nat)} {e : Nat} (h : m[ra]? = some (.lst (arr.map pD))) (he : e < 2 * arr.length) :
    ∃ p : Nat × Nat, dIx (.ref ra) (.int ((e : Int).fdiv 2)) m = .ok (pD p) m ∧ dIx (pD p) (.int ((e : Int).fmod 2)) m = .ok (I (pl arr e)) m := by
  have hk : e / 2 < arr.length := by omega
  refine ⟨arr[e / 2], ?_, ?_⟩
  · have : ((e : Int).fdiv 2) = ((e / 2 : Nat) : Int) := by rw [Int.fdiv_eq_ediv_of_nonneg _ (by decide)]; rfl
    rw [this]
    exact v_ixL h (atI_nat (by simp [hk]))
  · have : ((e : Int).fmod 2) = ((e % 2 : Nat) : Int) := by rw [Int.fmod_eq_emod_of_nonneg _ (by decide)]; rfl
    rw [this]
    unfold pl pD
    rw [List.getElem?_eq_getElem hk]
    dsimp only
    by_cases z : e % 2 = 0
    · rw [if_pos z, z]; exact v_ixT rfl
    · have z1 : e % 2 = 1 := by omega
      rw [if_neg z, z1]; exact v_ixT rfl
theorem ma_set {ks : List Nat} {p k : Nat} : (ks.map D.ref).set p (.ref k) = (ks.set p k).map D.ref := by simp
@[simp] theorem mk2 {a b : D} {m : Mem} : mkTup [a, b] m = .ok (.tup [a, b]) m := if_pos (by rw [show sizeLine = 2 ^ 24 from rfl]; simp)
@[simp] theorem mk1 {a : D} {m : Mem} : mkTup [a] m = .ok (.tup [a]) m := if_pos (by rw [show sizeLine = 2 ^ 24 from rfl]; simp)
@[simp] theorem mk5 {a b c d e : D} {m : Mem} : mkTup [a, b, c, d, e] m = .ok (.tup [a, b, c, d, e]) m := if_pos (by rw [show sizeLine = 2 ^ 24 from rfl]; simp)
/-- what a growing step leaves -/
def Grown (h : Nat) (m : Mem) (n : Nat) (d : D) (m' : Mem) : Prop := ∃ ra' rr' arr' rs', d = .tup [.ref ra', .ref rr'] ∧ Fr h m m' ∧ HandOK h m' ∧ ChM h m' ra' rr' arr' rs' ∧ G arr' rs' ∧ arr'.length ≤ n + 1
theorem w_rt_o {α : Type} {r : R α} {e : Env'} {k : α → Mem → O} {Q : D → Mem → Prop} (h : Ok r fun d m => Rt (k d m) Q) : Rt (r.o e k) Q := by cases r <;> first | exact h | exact h.elim
/-- the list of rounds with one of them another list, and a list more -/
theorem ChM.next {h : Nat} {m m' : Mem} {rr' kn kq ra' p : Nat} {ks : List Nat} {rs : List (List Nat)} {r q : List Nat} {arr' : List (Nat × Nat)} (a : Fr h m m') (nh : h < m.length)
    (k3 : ∀ (i k : Nat) (r : List Nat), ks[i]? = some k → rs[i]? = some r → m[k]? = some (.lst (r.map I)) ∧ k ≠ h) (k2 : ks.length = rs.length) (hp : p < rs.length) (g1 : m'[kn]? = some (.lst (r.map I))) (g2 : m'[kq]? = some (.lst (q.map I))) (g3 : m'[rr']? = some (.lst (((ks.set p kn) ++ [kq]).map D.ref))) (g4 : m'[ra']? = some (.lst (arr'.map pD)))
    (n1 : kn ≠ h) (n2 : kq ≠ h) (n3 : rr' ≠ h) (n4 : ra' ≠ h) : ChM h m' ra' rr' arr' (rs.set p r ++ [q]) := by
  refine ⟨g4, n4, n3, _, g3, by simp [k2], fun i k r' e1 e2 => ?_⟩
  by_cases hi : i < rs.length
  · rw [List.getElem?_append_left (by simpa [k2] using hi)] at e1
    rw [List.getElem?_append_left (by simpa using hi)] at e2
    by_cases z : p = i
    · subst z
      rw [List.getElem?_set_self (by omega)] at e1 e2
      cases e1; cases e2
      exact ⟨g1, n1⟩
    · rw [List.getElem?_set_ne z] at e1 e2
      have := k3 i k r' e1 e2
      exact ⟨a _ _ this.1 this.2, this.2⟩
  · rw [List.getElem?_append_right (by simp [k2]; omega)] at e1
    rw [List.getElem?_append_right (by simp; omega)] at e2
    rw [List.length_set] at e1 e2
    rw [k2] at e1
    cases hj : i - rs.length with
    | zero =>
      rw [hj] at e1 e2
      cases e1; cases e2
      exact ⟨g2, n2⟩
    | succ j => rw [hj] at e1; simp at e1
theorem set_cut {α : Type} {l : List α} {p : Nat} {x : α} (h : p < l.length) : l.take p ++ [x] ++ l.drop (p + 1) = l.set p x := by
  rw [List.set_eq_take_append_cons_drop, if_pos h]; simp
theorem w_hung {h : Nat} {m : Mem} {ra rr : Nat} {arr : List (Nat × Nat)} {rs : List (List Nat)} (H : HandOK h m) (C : ChM h m ra rr arr rs) (g : G arr rs) (hb : arr.length < 100) :
    Ok (f_law_hung [.ref h, .ref ra, .ref rr, .bl true] m) (Grown h m arr.length) := by
  have hz : sizeLine = 2 ^ 24 := rfl
  have hpos := g.pos
  have t1 : ∀ (w : Int) (m : Mem), dMul (.int 2) (.int w) m = .ok (.int (2 * w)) m := fun w m => v_mul (.inl (by decide))
  have t2 : ∀ (w : Int) (m : Mem), dMod (.int w) (.int 2) m = .ok (.int (w.fmod 2)) m := fun w m => v_mod (by decide)
  have t3 : ∀ (w : Int) (m : Mem), dFdiv (.int w) (.int 2) m = .ok (.int (w.fdiv 2)) m := fun w m => v_fdiv ⟨by decide, by decide⟩
  obtain ⟨_, m1, e1, a, rfl, ha, f1, H1⟩ := ok_ex (w_draw H (many := 2 * (arr.length : Int)) (by omega) (by omega))
  have ha' : a < 2 * arr.length := by omega
  have C1 := C.fr f1
  obtain ⟨p, e2, e3⟩ := w_placeOf C1.ha ha'
  obtain ⟨r, hr, har⟩ := g.at' a ha'
  have hp := (List.getElem?_eq_some_iff.mp hr).1
  obtain ⟨_, m2, e4, v, rfl, hv, f2, H2⟩ := ok_ex (w_draw H1 (many := 2) (by decide) (by decide))
  have C2 := C1.fr f2
  obtain ⟨x, hx⟩ : ∃ x, x = 2 * arr.length + v := ⟨_, rfl⟩
  have hx2 : x = 2 * arr.length ∨ x = 2 * arr.length + 1 := by omega
  obtain ⟨ks, k1, k2, k3⟩ := C2.hr
  have hpk : pl arr a < ks.length := by omega
  have k4 := k3 (pl arr a) ks[pl arr a] r (List.getElem?_eq_getElem hpk) hr
  have hrl : r.length < 1000 := by have := g.row (List.mem_of_getElem? hr); omega
  obtain ⟨_, m3, e5, kn, rfl, p3, kl, kg⟩ := ok_ex (w_put (x := x) k4.1 har hrl)
  have lenA : bLen [.ref ra] m = .ok (.int (arr.length : Int)) m := by rw [v_lenL C.ha]; simp
  have lenA1 : bLen [.ref ra] m1 = .ok (.int (arr.length : Int)) m1 := by rw [v_lenL C1.ha]; simp
  have e6 : dIx (.ref rr) (.int (pl arr a : Int)) m2 = .ok (.ref ks[pl arr a]) m2 := v_ixL k1 (atI_nat (by simp [hpk]))
  have C3 := C2.fr p3.fr
  have lenR3 : bLen [.ref rr] m3 = .ok (.int (rs.length : Int)) m3 := by rw [v_lenL (p3 _ _ k1)]; simp [k2]
  have hxI : (2 * (arr.length : Int) + (v : Int)) = (x : Int) := by omega
  have oth := w_other x
  simp only [I] at e1 e3 e4 e5 oth
  -- the pair
  obtain ⟨q, hq⟩ : ∃ q : Nat × Nat, q = if x % 2 = 0 then (pl arr a, rs.length) else (rs.length, pl arr a) := ⟨_, rfl⟩
  have hev : ((x : Int).fmod 2) = ((x % 2 : Nat) : Int) := by rw [Int.fmod_eq_emod_of_nonneg _ (by decide)]; rfl
  -- the lists that are made
  obtain ⟨m4, hm4⟩ : ∃ m4, m4 = m3 ++ [Cell.lst ((ks.map D.ref).take (pl arr a))] := ⟨_, rfl⟩
  obtain ⟨m5, hm5⟩ : ∃ m5, m5 = m4 ++ [Cell.lst [.ref kn]] := ⟨_, rfl⟩
  obtain ⟨m6, hm6⟩ : ∃ m6, m6 = m5 ++ [Cell.lst ((ks.map D.ref).take (pl arr a) ++ [.ref kn])] := ⟨_, rfl⟩
  obtain ⟨m7, hm7⟩ : ∃ m7, m7 = m6 ++ [Cell.lst ((ks.map D.ref).drop (pl arr a + 1))] := ⟨_, rfl⟩
  obtain ⟨m8, hm8⟩ : ∃ m8, m8 = m7 ++ [Cell.lst ((ks.map D.ref).take (pl arr a) ++ [.ref kn] ++ (ks.map D.ref).drop (pl arr a + 1))] := ⟨_, rfl⟩
  obtain ⟨m9, hm9⟩ : ∃ m9, m9 = m8 ++ [Cell.lst [.int (Ch.o x : Int)]] := ⟨_, rfl⟩
  obtain ⟨ma, hma⟩ : ∃ ma, ma = m9 ++ [Cell.lst [.ref m8.length]] := ⟨_, rfl⟩
  obtain ⟨mb, hmb⟩ : ∃ mb, mb = ma ++ [Cell.lst ((ks.map D.ref).take (pl arr a) ++ [.ref kn] ++ (ks.map D.ref).drop (pl arr a + 1) ++ [.ref m8.length])] := ⟨_, rfl⟩
  obtain ⟨mc, hmc⟩ : ∃ mc, mc = mb ++ [Cell.lst [pD q]] := ⟨_, rfl⟩
  obtain ⟨md, hmd⟩ : ∃ md, md = mc ++ [Cell.lst (arr.map pD ++ [pD q])] := ⟨_, rfl⟩
  have p4 : Pre m3 m4 := by rw [hm4]; exact .add
  have p5 : Pre m4 m5 := by rw [hm5]; exact .add
  have p6 : Pre m5 m6 := by rw [hm6]; exact .add
  have p7 : Pre m6 m7 := by rw [hm7]; exact .add
  have p8 : Pre m7 m8 := by rw [hm8]; exact .add
  have p9 : Pre m8 m9 := by rw [hm9]; exact .add
  have pa : Pre m9 ma := by rw [hma]; exact .add
  have pb : Pre ma mb := by rw [hmb]; exact .add
  have pc : Pre mb mc := by rw [hmc]; exact .add
  have pd : Pre mc md := by rw [hmd]; exact .add
  have p36 : Pre m3 m6 := (p4.trans p5).trans p6
  have p3b : Pre m3 mb := p36.trans ((p7.trans p8).trans ((p9.trans pa).trans pb))
  have g4 : m4[m3.length]? = some (.lst ((ks.map D.ref).take (pl arr a))) := by rw [hm4]; exact new_get
  have g5 : m5[m4.length]? = some (.lst [.ref kn]) := by rw [hm5]; exact new_get
  have g6 : m6[m5.length]? = some (.lst ((ks.map D.ref).take (pl arr a) ++ [.ref kn])) := by rw [hm6]; exact new_get
  have g7 : m7[m6.length]? = some (.lst ((ks.map D.ref).drop (pl arr a + 1))) := by rw [hm7]; exact new_get
  have g8 : m8[m7.length]? = some (.lst ((ks.map D.ref).take (pl arr a) ++ [.ref kn] ++ (ks.map D.ref).drop (pl arr a + 1))) := by rw [hm8]; exact new_get
  have g9 : m9[m8.length]? = some (.lst [.int (Ch.o x : Int)]) := by rw [hm9]; exact new_get
  have ga : ma[m9.length]? = some (.lst [.ref m8.length]) := by rw [hma]; exact new_get
  have gb : mb[ma.length]? = some (.lst ((ks.map D.ref).take (pl arr a) ++ [.ref kn] ++ (ks.map D.ref).drop (pl arr a + 1) ++ [.ref m8.length])) := by rw [hmb]; exact new_get
  have gc : mc[mb.length]? = some (.lst [pD q]) := by rw [hmc]; exact new_get
  have gd : md[mc.length]? = some (.lst (arr.map pD ++ [pD q])) := by rw [hmd]; exact new_get
  have hrs := g.rows
  have s4 : dSl (.ref rr) none (some (pl arr a : Int)) m3 = .ok (.ref m3.length) m4 := by
    rw [w_slL (p3 _ _ k1), hm4, cut_lo]
  have s5 : mkLst [.ref kn] m4 = .ok (.ref m4.length) m5 := by rw [hm5]; exact v_lst (by rw [hz]; simp)
  have s6 : dAdd (.ref m3.length) (.ref m4.length) m5 = .ok (.ref m5.length) m6 := by
    rw [hm6]; exact w_catL (p5 _ _ g4) g5 (by rw [hz]; simp; omega)
  have s7 : dSl (.ref rr) (some ((pl arr a : Int) + 1)) none m6 = .ok (.ref m6.length) m7 := by
    rw [w_slL (p36 _ _ (p3 _ _ k1)), hm7]
    have := cut_hi (ks.map D.ref) (pl arr a + 1)
    rw [← this]; rfl
  have s8 : dAdd (.ref m5.length) (.ref m6.length) m7 = .ok (.ref m7.length) m8 := by
    rw [hm8]; exact w_catL (p7 _ _ g6) g7 (by rw [hz]; simp; omega)
  have s9 : mkLst [.int (Ch.o x : Int)] m8 = .ok (.ref m8.length) m9 := by rw [hm9]; exact v_lst (by rw [hz]; simp)
  have sa : mkLst [.ref m8.length] m9 = .ok (.ref m9.length) ma := by rw [hma]; exact v_lst (by rw [hz]; simp)
  have sb : dAdd (.ref m7.length) (.ref m9.length) ma = .ok (.ref ma.length) mb := by
    rw [hmb]; exact w_catL (pa _ _ (p9 _ _ g8)) ga (by rw [hz]; simp; omega)
  have sc : mkLst [pD q] mb = .ok (.ref mb.length) mc := by rw [hmc]; exact v_lst (by rw [hz]; simp)
  have sd : dAdd (.ref ra) (.ref mb.length) mc = .ok (.ref mc.length) md := by
    rw [hmd]; exact w_catL (pc _ _ (p3b _ _ (p3 _ _ C2.ha))) gc (by rw [hz]; simp; omega)
  have fin : Grown h m arr.length (.tup [.ref mc.length, .ref ma.length]) md := by
    have hF : Fr h m md := (f1.trans f2).trans ((p3.trans (p3b.trans (pc.trans pd))).fr)
    have hh : h < m2.length := by
      obtain ⟨_, _, _, _, _, _, z, _⟩ := H2
      exact (List.getElem?_eq_some_iff.mp z).1
    have l3 := p3.len
    have l4 := p4.len
    have l5 := p5.len
    have l6 := p6.len
    have l7 := p7.len
    have l8 := p8.len
    have l9 := p9.len
    have la := pa.len
    have lb := pb.len
    have lc := pc.len
    have gnew := g.hang ha' hr hx2
    rw [← hq] at gnew
    refine ⟨mc.length, ma.length, _, _, rfl, hF, H2.pre (p3.trans (p3b.trans (pc.trans pd))), ?_, gnew, by simp⟩
    refine ChM.next (m := m2) (kn := kn) (kq := m8.length) ((p3.trans (p3b.trans (pc.trans pd))).fr) hh k3 k2 hp (pd _ _ (pc _ _ (p3b _ _ kg))) ?_ ?_ ?_ (by omega) (by omega) (by omega) (by omega)
    · exact pd _ _ (pc _ _ (pb _ _ (pa _ _ g9)))
    · have := pd _ _ (pc _ _ gb)
      rw [set_cut (by simpa using hpk), ma_set] at this
      simpa using this
    · simpa using gd
  unfold f_law_hung afOf a_law_hung
  simp only [List.length_cons, List.length_nil, List.map_cons, List.map_nil, v_seq, v_asg, v_call, v_cons, v_op, v_nil, v_v0 (z := none), v_vs, v_c]
  simp [lenA, lenA1, t1, t2, t3, e1, e2, e3, e4, hxI, I]
  refine rt_f ?_
  rw [w_for, w_iE]
  simp [oth, I]
  refine forL_rt gd_nil rfl ?_
  by_cases z : x % 2 = 0
  · have z' : (x : Int) % 2 = 0 := by omega
    have dq : D.tup [.int (pl arr a : Int), .int (rs.length : Int)] = pD q := by rw [hq, if_pos z]; rfl
    simp [e6, e5, lenR3, t2, hev, w_eqI, w_sl, w_oS, z', dq, s4, s5, s6, s7, s8, s9, sa, sb, sc, sd, oth]
    exact fin
  · have z' : ¬ (x : Int) % 2 = 0 := by omega
    have dq : D.tup [.int (rs.length : Int), .int (pl arr a : Int)] = pD q := by rw [hq, if_neg z]; rfl
    simp [e6, e5, lenR3, t2, hev, w_eqI, w_sl, w_oS, z', dq, s4, s5, s6, s7, s8, s9, sa, sb, sc, sd, oth]
    exact fin
end Cl
set_option Elab.async false
set_option linter.all false
set_option maxRecDepth 100000
namespace Ch
theorem pp_idx : ∀ (l : List Nat) (i : Nat) (h : i + 1 < l.length), (l[i]'(by omega), l[i + 1]) ∈ pp l
  | [], i, h => by simp at h
  | [a], i, h => by simp at h
  | a :: b :: l, 0, h => List.mem_cons_self
  | a :: b :: l, i + 1, h => List.mem_cons_of_mem _ (pp_idx (b :: l) i (by simpa using h))
theorem cy_idx {r : List Nat} {i : Nat} (h : i + 1 < r.length) : (r[i]'(by omega), r[i + 1]) ∈ cy r := by
  cases r with
  | nil => simp at h
  | cons x l =>
    have hL : ∀ (j : Nat) (hj : j < (x :: l).length), (x :: (l ++ [x]))[j]'(by simp at hj ⊢; omega) = (x :: l)[j] := fun j hj => by
      show ((x :: l) ++ [x])[j]'_ = _
      exact List.getElem_append_left hj
    have := pp_idx (x :: (l ++ [x])) i (by simp at h ⊢; omega)
    rw [hL i (by omega), hL (i + 1) h] at this
    exact this
theorem cy_end {r : List Nat} (h : 0 < r.length) : (r[r.length - 1]'(by omega), r[0]) ∈ cy r := by
  cases r with
  | nil => simp at h
  | cons x l =>
    have hL : ∀ (j : Nat) (hj : j < (x :: l).length), (x :: (l ++ [x]))[j]'(by simp at hj ⊢; omega) = (x :: l)[j] := fun j hj => by
      show ((x :: l) ++ [x])[j]'_ = _
      exact List.getElem_append_left hj
    have := pp_idx (x :: (l ++ [x])) l.length (by simp)
    have e2 : (x :: (l ++ [x]))[l.length + 1]'(by simp) = x := by simp
    rw [hL l.length (by simp), e2] at this
    exact this
open Classical in
noncomputable def prd (rs : List (List Nat)) (e : Nat) : Nat := if h : ∃ x, P rs x e then choose h else 0
theorem prd_eq {rs : List (List Nat)} (hn : rs.flatten.Nodup) {x e : Nat} (h : P rs x e) : prd rs e = x := by
  unfold prd
  rw [dif_pos ⟨x, h⟩]
  exact P_inj hn (Classical.choose_spec (⟨x, h⟩ : ∃ x, P rs x e)) h
end Ch
namespace Cl
open PySem PySem.Spec PyProof.Rows L2 Ab
theorem forL_go {tg : AG} {b : AS} {gd : Gd} (Inv : List D → Env' → Mem → Prop) (hs : ∀ d r e m, Inv (d :: r) e m → gd.Ok m ∧ ∃ e2, tg d e m = .ok e2 m ∧ Nx (b e2 m) (Inv r)) (hf : ∀ e m, Inv [] e m → gd.Ok m) :
    ∀ (ds : List D) (e : Env') (m : Mem), Inv ds e m → Nx (forL tg b gd ds e m) (Inv [])
  | [], e, m, h => by
    unfold forL
    rw [if_pos (hf e m h)]
    exact h
  | d :: r, e, m, h => by
    obtain ⟨h1, e2, h2, h3⟩ := hs d r e m h
    unfold forL
    rw [if_pos h1, h2]
    show Nx (match b e2 m with | .nx e m => forL tg b gd r e m | .ct e m => forL tg b gd r e m | .bk e m => .nx e m | .rt d m => .rt d m | .er x e m => .er x e m | .no => .no) _
    cases h4 : b e2 m with
    | nx e3 m3 => rw [h4] at h3; exact forL_go Inv hs hf r e3 m3 h3
    | _ => rw [h4] at h3; exact h3.elim
theorem atI_prev {rs : List (List Nat)} (hn : rs.flatten.Nodup) {r : List Nat} (hr : r ∈ rs) {i : Nat} (hi : i < r.length) : atI (r.map I) ((i : Int) - 1) = some (I (Ch.prd rs r[i])) := by
  cases i with
  | zero =>
    have h1 : Ch.P rs (r[r.length - 1]'(by omega)) r[0] := ⟨r, hr, Ch.cy_end hi⟩
    rw [Ch.prd_eq hn h1]
    unfold atI ixN
    rw [if_neg (by omega), if_pos (by simp; omega)]
    have : ((((0 : Nat) : Int) - 1 + ((r.map I).length : Int)).toNat) = r.length - 1 := by simp; omega
    simp only [Option.bind_some, this]
    rw [List.getElem?_map, List.getElem?_eq_getElem (by omega)]; rfl
  | succ i =>
    have h1 : Ch.P rs (r[i]'(by omega)) r[i + 1] := ⟨r, hr, Ch.cy_idx hi⟩
    rw [Ch.prd_eq hn h1]
    have : (((i + 1 : Nat) : Int) - 1) = (i : Int) := by omega
    rw [this]
    exact atI_nat (by rw [List.getElem?_map, List.getElem?_eq_getElem (by omega)]; rfl)
/-- what lies in front of each end, as a dict -/
noncomputable def aK (rs : List (List Nat)) (done : List Nat) : List (Key × D) := done.map fun (e : Nat) => (Sum.inl (e : Int), I (Ch.prd rs e))
theorem aK_put {rs : List (List Nat)} {done : List Nat} {e : Nat} (h : e ∉ done) : putD (aK rs done) (.inl (e : Int)) (I (Ch.prd rs e)) = aK rs (done ++ [e]) := by
  have h1 : ((aK rs done).any fun kv => decide (kv.1 = .inl (e : Int))) = false := by
    rw [List.any_eq_false]
    intro kv hkv
    unfold aK at hkv
    obtain ⟨x, hx, rfl⟩ := List.mem_map.mp hkv
    simp
    intro z
    have : x = e := by omega
    exact h (this ▸ hx)
  unfold putD
  rw [h1]
  simp [aK]
theorem aK_get {rs : List (List Nat)} {e : Nat} : ∀ {done : List Nat}, e ∈ done → valD (aK rs done) (.inl (e : Int)) = some (I (Ch.prd rs e))
  | x :: l, h => by
    unfold valD aK
    rw [List.map_cons, List.find?_cons]
    by_cases z : x = e
    · subst z; simp
    · have : decide ((Sum.inl (x : Int) : Key) = .inl (e : Int)) = false := by
        apply decide_eq_false
        intro q
        have : (x : Int) = (e : Int) := Sum.inl.inj q
        omega
      dsimp only
      rw [this]
      have hm : e ∈ l := by rcases List.mem_cons.mp h with q | q; exact absurd q.symm z; exact q
      exact aK_get hm
/-- the two loops that write it down -/
noncomputable def wAh1 : AS := sAsg (eOp dIx (eVar 2) (eOp dSub (eVar 3) (eC (.int 1)))) (gS dSet (eVar 1) (eVar 4))
noncomputable def gAh : AG := gT 2 (gsCons (gN 3) (gsCons (gN 4) (gsNil)))
def enk (k : Nat) (ds : List D) : List D := (ds.zipIdx k).map fun p => .tup [.int (p.2 : Int), p.1]
theorem enk_cons {k : Nat} {d : D} {r : List D} : enk k (d :: r) = .tup [.int (k : Int), d] :: enk (k + 1) r := by unfold enk; rw [List.zipIdx_cons]; rfl
theorem w_ah1 {rs : List (List Nat)} (hn : rs.flatten.Nodup) {r : List Nat} (hr : r ∈ rs) {done : List Nat} (hd : (done ++ r).Nodup) (hl : (done ++ r).length < 1000) {R0 dr : D} {x3 x4 : Option D} {tl : Env'} {ka : Nat} {m : Mem} {gd : Gd}
    (hm : m[ka]? = some (.dic (aK rs done))) (hg : ∀ m', Fr ka m m' → gd.Ok m') (hx : ∀ m' (i : Nat), Fr ka m m' → i < r.length → dIx dr (.int ((i : Int) - 1)) m' = .ok (I (Ch.prd rs (r.getD i 0))) m') :
    Nx (forL gAh wAh1 gd (enumD (r.map I)) (some R0 :: some (.ref ka) :: some dr :: x3 :: x4 :: tl) m) fun e' m' => (∃ y3 y4, e' = some R0 :: some (.ref ka) :: some dr :: y3 :: y4 :: tl) ∧ Fr ka m m' ∧ m'[ka]? = some (.dic (aK rs (done ++ r))) := by
  have hz : sizeLine = 2 ^ 24 := rfl
  let Inv : List D → Env' → Mem → Prop := fun ds e' m' => ∃ s t, r = s ++ t ∧ ds = enk s.length (t.map I) ∧ (∃ y3 y4, e' = some R0 :: some (.ref ka) :: some dr :: y3 :: y4 :: tl) ∧ Fr ka m m' ∧ m'[ka]? = some (.dic (aK rs (done ++ s)))
  refine nx_mono (forL_go Inv ?_ ?_ _ _ _ ?_) ?_
  · rintro d rest e1 m1 ⟨s, t, rfl, h2, ⟨y3, y4, rfl⟩, h3, h4⟩
    cases t with
    | nil => cases h2
    | cons x t =>
      rw [List.map_cons, enk_cons] at h2
      cases h2
      refine ⟨hg _ h3, some R0 :: some (.ref ka) :: some dr :: some (.int (s.length : Int)) :: some (I x) :: tl, by simp [gAh], ?_⟩
      have hxx := hx m1 s.length h3 (by simp)
      have hgd : (s ++ x :: t).getD s.length 0 = x := by simp
      rw [hgd] at hxx
      have hxd : x ∉ done ++ s := by
        intro z
        have hd2 : ((done ++ s) ++ x :: t).Nodup := by simpa using hd
        rw [List.nodup_append] at hd2
        exact hd2.2.2 x z x List.mem_cons_self rfl
      have hset : dSet (.ref ka) (I x) (I (Ch.prd rs x)) m1 = .ok () (m1.set ka (.dic (aK rs (done ++ s ++ [x])))) := by
        unfold dSet
        simp only [h4]
        show (if (aK rs (done ++ s)).length < sizeLine then R.ok () (m1.set ka (.dic (putD (aK rs (done ++ s)) (.inl (x : Int)) (I (Ch.prd rs x))))) else R.no) = _
        rw [if_pos (by rw [hz]; unfold aK; simp at hl ⊢; omega), aK_put hxd]
      simp only [wAh1, v_asg, v_op, v_vs, v_v0 (z := none), v_c, v_bind, v_o]
      simp [hxx, hset]
      refine ⟨s ++ [x], t, by simp, by simp [enk], ⟨_, _, rfl⟩, h3.trans Fr.set, ?_⟩
      rw [get_set h4]
  · rintro e1 m1 ⟨s, t, _, _, _, h3, _⟩
    exact hg _ h3
  · exact ⟨[], r, rfl, rfl, ⟨_, _, rfl⟩, Fr.refl, by simpa using hm⟩
  · rintro e1 m1 ⟨s, t, rfl, h2, h3, h4, h5⟩
    have : t = [] := by
      cases t with
      | nil => rfl
      | cons x t => rw [List.map_cons, enk_cons] at h2; cases h2
    subst this
    exact ⟨h3, h4, by simpa using h5⟩
end Cl
namespace Cl
open PySem PySem.Spec PyProof.Rows L2 Ab
/-- a row of ends, as a list or a tuple -/
def RowAt (rs : List (List Nat)) (ka : Nat) (m : Mem) (d : D) (r : List Nat) : Prop := ∃ gd : Gd, ∀ m', Fr ka m m' → enm [d] m' = .ok (enumD (r.map I), gd) m' ∧ gd.Ok m' ∧ ∀ i : Nat, i < r.length → dIx d (.int ((i : Int) - 1)) m' = .ok (I (Ch.prd rs (r.getD i 0))) m'
theorem getD_at {r : List Nat} {i : Nat} (h : i < r.length) : r.getD i 0 = r[i] := by simp [List.getD, List.getElem?_eq_getElem h]
theorem rowAt_tup {rs : List (List Nat)} (hn : rs.flatten.Nodup) {r : List Nat} (hr : r ∈ rs) {ka : Nat} {m : Mem} : RowAt rs ka m (.tup (r.map I)) r :=
  ⟨[], fun m' _ => ⟨rfl, gd_nil, fun i hi => by rw [getD_at hi]; exact v_ixT (atI_prev hn hr hi)⟩⟩
theorem rowAt_lst {rs : List (List Nat)} (hn : rs.flatten.Nodup) {r : List Nat} (hr : r ∈ rs) {ka k : Nat} {m : Mem} (hk : m[k]? = some (.lst (r.map I))) (hne : k ≠ ka) : RowAt rs ka m (.ref k) r :=
  ⟨[(k, .lst (r.map I))], fun m' a => by
    have h1 := a _ _ hk hne
    refine ⟨?_, fun p hp => ?_, fun i hi => by rw [getD_at hi]; exact v_ixL h1 (atI_prev hn hr hi)⟩
    · show (itD (.ref k) m').bind _ = _
      unfold itD
      simp only [h1]
      rfl
    · rw [List.mem_singleton.mp hp]; exact h1⟩
noncomputable def wAh2 : AS := sFor (iA enm (aCons (eVar 2) (aNil))) gAh wAh1
theorem w_ah2 {rs : List (List Nat)} (hn : rs.flatten.Nodup) (hl : rs.flatten.length < 1000) {R0 : D} {x2 x3 x4 : Option D} {tl : Env'} {ka : Nat} {m : Mem} {gd : Gd} {ds : List D} (hlen : ds.length = rs.length)
    (hrow : ∀ (i : Nat) (d : D) (r : List Nat), ds[i]? = some d → rs[i]? = some r → RowAt rs ka m d r) (hm : m[ka]? = some (.dic [])) (hg : ∀ m', Fr ka m m' → gd.Ok m') :
    Nx (forL (gN 2) wAh2 gd ds (some R0 :: some (.ref ka) :: x2 :: x3 :: x4 :: tl) m) fun e' m' => (∃ y2 y3 y4, e' = some R0 :: some (.ref ka) :: y2 :: y3 :: y4 :: tl) ∧ Fr ka m m' ∧ m'[ka]? = some (.dic (aK rs rs.flatten)) := by
  let Inv : List D → Env' → Mem → Prop := fun rest e' m' => ∃ d1 s t, ds = d1 ++ rest ∧ rs = s ++ t ∧ d1.length = s.length ∧ (∃ y2 y3 y4, e' = some R0 :: some (.ref ka) :: y2 :: y3 :: y4 :: tl) ∧ Fr ka m m' ∧ m'[ka]? = some (.dic (aK rs s.flatten))
  refine nx_mono (forL_go Inv ?_ ?_ _ _ _ ?_) ?_
  · rintro d rest e1 m1 ⟨d1, s, t, h1, h2, h3, ⟨y2, y3, y4, rfl⟩, h4, h5⟩
    refine ⟨hg _ h4, _, rfl, ?_⟩
    have hi1 : ds[s.length]? = some d := by rw [h1, ← h3]; simp
    have hi2 : s.length < rs.length := by
      have := (List.getElem?_eq_some_iff.mp hi1).1
      omega
    cases t with
    | nil => rw [h2] at hi2; simp at hi2
    | cons r t =>
      have hr2 : rs[s.length]? = some r := by rw [h2]; simp
      have hrm : r ∈ rs := by rw [h2]; simp
      obtain ⟨gd2, hrow2⟩ := hrow _ d r hi1 hr2
      have hflat : rs.flatten = (s.flatten ++ r) ++ t.flatten := by rw [h2]; simp
      have hd : (s.flatten ++ r).Nodup := by rw [hflat] at hn; exact (List.nodup_append.mp hn).1
      have hl2 : (s.flatten ++ r).length < 1000 := by
        have := hl
        rw [hflat] at this
        simp at this ⊢
        omega
      show Nx (sFor (iA enm (aCons (eVar 2) (aNil))) gAh wAh1 (some R0 :: some (.ref ka) :: some d :: y3 :: y4 :: tl) m1) _
      rw [w_for]
      show Nx ((((aCons (eVar 2) aNil) (some R0 :: some (.ref ka) :: some d :: y3 :: y4 :: tl) m1).bind enm).o _ _) _
      simp only [v_cons, v_vs, v_v0 (z := none), v_nil, v_bind, (hrow2 m1 h4).1, v_o]
      refine nx_mono (w_ah1 (R0 := R0) (dr := d) hn hrm hd hl2 h5 (fun m' a => (hrow2 m' (h4.trans a)).2.1) (fun m' i a hi => (hrow2 m' (h4.trans a)).2.2 i hi)) ?_
      rintro e2 m2 ⟨⟨z3, z4, rfl⟩, k2, k3⟩
      exact ⟨d1 ++ [d], s ++ [r], t, by simp [h1], by simp [h2], by simp [h3], ⟨_, _, _, rfl⟩, h4.trans k2, by simpa using k3⟩
  · rintro e1 m1 ⟨d1, s, t, _, _, _, _, h4, _⟩
    exact hg _ h4
  · exact ⟨[], [], rs, rfl, rfl, rfl, ⟨_, _, _, rfl⟩, Fr.refl, by simpa [aK] using hm⟩
  · rintro e1 m1 ⟨d1, s, t, h1, h2, h3, h4, h5, h6⟩
    have : t = [] := by
      have q1 : ds.length = d1.length := by rw [h1]; simp
      have q2 : rs.length = s.length + t.length := by rw [h2]; simp
      exact List.length_eq_zero_iff.mp (by omega)
    subst this
    rw [h2]
    exact ⟨h4, h5, by simpa [h2] using h6⟩
end Cl
set_option Elab.async false
set_option linter.all false
set_option maxRecDepth 100000
namespace Cl
open PySem PySem.Spec PyProof.Rows L2 Ab
theorem putD_len (kvs : List (Key × D)) (k : Key) (v : D) : (putD kvs k v).length ≤ kvs.length + 1 := by
  unfold putD
  split <;> simp
theorem v_notIn {n : Nat} {m : Mem} {kvs : List (Key × D)} {e : Nat} (h : m[n]? = some (.dic kvs)) : dNotIn (I e) (.ref n) m = .ok (.bl (!(valD kvs (.inl (e : Int))).isSome)) m := by
  show dIn0 true (I e) (.ref n) m = _
  unfold dIn0
  simp only [h]
  show R.ok (D.bl (xor true _)) m = _
  rw [Bool.true_xor]
theorem v_setD {n : Nat} {m : Mem} {kvs : List (Key × D)} {e : Nat} {v : D} (h : m[n]? = some (.dic kvs)) (hl : kvs.length < 2 ^ 24) : dSet (.ref n) (I e) v m = .ok () (m.set n (.dic (putD kvs (.inl (e : Int)) v))) := by
  unfold dSet
  simp only [h]
  exact if_pos hl
theorem v_getD {n : Nat} {m : Mem} {kvs : List (Key × D)} {e : Nat} {v : D} (h : m[n]? = some (.dic kvs)) (hv : valD kvs (.inl (e : Int)) = some v) : dIx (.ref n) (I e) m = .ok v m := by
  unfold dIx
  simp only [h]
  show (match keyD (I e) with | some k => (match valD kvs k with | some d => R.ok d m | none => R.no) | none => R.no) = _
  show (match valD kvs (.inl (e : Int)) with | some d => R.ok d m | none => R.no) = _
  rw [hv]
theorem v_append {n : Nat} {m : Mem} {ds : List D} {d : D} (h : m[n]? = some (.lst ds)) (hl : ds.length < 2 ^ 24) : mAppend (.ref n) [d] m = .ok .non (m.set n (.lst (ds ++ [d]))) := by
  unfold mAppend
  simp only [h]
  exact if_pos hl
/-- all but some cells is as it was -/
def Kp (S : List Nat) (m m' : Mem) : Prop := ∀ (i : Nat) (c : Cell), m[i]? = some c → i ∉ S → m'[i]? = some c
theorem Kp.refl {S : List Nat} {m : Mem} : Kp S m m := fun _ _ e _ => e
theorem Kp.trans {S : List Nat} {m m1 m2 : Mem} (a : Kp S m m1) (b : Kp S m1 m2) : Kp S m m2 := fun i c e n => b i c (a i c e n) n
theorem Kp.set {S : List Nat} {m : Mem} {n : Nat} {c : Cell} (h : n ∈ S) : Kp S m (m.set n c) := fun i _ e k => by rw [List.getElem?_set_ne (fun z => k (by rw [← z]; exact h))]; exact e
theorem Kp.pre {S : List Nat} {m m' : Mem} (a : Pre m m') : Kp S m m' := fun i c e _ => a i c e
noncomputable def wIn : AS := sIf (tVal (eOp dNotIn (eVar 9) (eVar 6)))
    (sSeq (sAsg (eC (.bl true)) (gS dSet (eVar 6) (eVar 9)))
    (sSeq (sExp (eMt isL mAppend (eVar 8) (aCons (eVar 9) (aNil))))
    (sAsg (eOp dIx (eVar 1) (eCall f_law_other (aCons (eVar 9) (aNil)))) (gN 9))))
    (sSkip)
/-- the walk round one rim -/
theorem w_walk {rs rims : List (List Nat)} {N : Nat} (F : Ch.Flat rs rims N) {q : List Nat} (hq : q ∈ rims) {ka k6 k8 : Nat} {a : Nat} (haq : a ∈ q) {R0 : D} {x2 x3 x4 x5 x7 x10 : Option D} {m : Mem} {kvs : List (Key × D)} {ds : List D}
    (hm1 : m[ka]? = some (.dic (aK rs rs.flatten))) (hm6 : m[k6]? = some (.dic kvs)) (hm8 : m[k8]? = some (.lst [])) (hnew : valD kvs (.inl (a : Int)) = none) (n1 : ka ≠ k6) (n2 : ka ≠ k8) (n3 : k6 ≠ k8) (hk : kvs.length + ds.length < 60000) (hds : 0 < ds.length) :
    Nx (forL (gN 10) wIn [] ds [some R0, some (.ref ka), x2, x3, x4, x5, some (.ref k6), x7, some (.ref k8), some (I a), x10] m) fun e' m' => (∃ y9 y10, e' = [some R0, some (.ref ka), x2, x3, x4, x5, some (.ref k6), x7, some (.ref k8), y9, y10]) ∧ Kp [k6, k8] m m' ∧
      ∃ (kvs' : List (Key × D)) (rim : List Nat), m'[k6]? = some (.dic kvs') ∧ kvs'.length ≤ kvs.length + ds.length ∧ m'[k8]? = some (.lst (rim.map I)) ∧ rim ≠ [] ∧ rim.length ≤ ds.length ∧ ∀ e ∈ rim, e ∈ q := by
  let Inv : List D → Env' → Mem → Prop := fun rest e' m' => ∃ (j here : Nat) (y10 : Option D) (kvs' : List (Key × D)) (rim : List Nat), rest.length + j = ds.length ∧ here ∈ q ∧ e' = [some R0, some (.ref ka), x2, x3, x4, x5, some (.ref k6), x7, some (.ref k8), some (I here), y10] ∧ Kp [k6, k8] m m' ∧
    m'[k6]? = some (.dic kvs') ∧ kvs'.length ≤ kvs.length + j ∧ m'[k8]? = some (.lst (rim.map I)) ∧ rim.length ≤ j ∧ (∀ e ∈ rim, e ∈ q) ∧ ((j = 0 ∧ valD kvs' (.inl (here : Int)) = none) ∨ rim ≠ [])
  refine nx_mono (forL_go Inv ?_ (fun _ _ _ => gd_nil) _ _ _ ?_) ?_
  · rintro d rest e1 m1 ⟨j, here, y10, kvs', rim, h1, h2, rfl, h3, h4, h5, h6, h7, h8, h9⟩
    refine ⟨gd_nil, _, rfl, ?_⟩
    have hhN : here < N := by
      have : here ∈ rims.flatten := List.mem_flatten.mpr ⟨q, hq, h2⟩
      exact List.mem_range.mp (F.mN.mem_iff.mp this)
    have hka : m1[ka]? = some (.dic (aK rs rs.flatten)) := h3 _ _ hm1 (by simp [n1, n2])
    by_cases hs : (valD kvs' (.inl (here : Int))).isSome = true
    · simp [wIn, v_notIn h4, hs]
      refine ⟨j + 1, here, _, kvs', rim, by simp at h1; omega, h2, rfl, h3, h4, by omega, h6, by omega, h8, ?_⟩
      right
      rcases h9 with ⟨_, z⟩ | z
      · rw [z] at hs; cases hs
      · exact z
    · have hs' : (valD kvs' (.inl (here : Int))).isSome = false := by simpa using hs
      obtain ⟨nx, hnx⟩ := Ch.cy_has h2
      have hP := F.ad q hq here nx hnx
      have hprd := Ch.prd_eq F.nd hP
      have hom : Ch.o here ∈ rs.flatten := F.rN.mem_iff.mpr (List.mem_range.mpr (Ch.o_lt F.ev hhN))
      have hset : dSet (.ref k6) (I here) (.bl true) m1 = .ok () (m1.set k6 (.dic (putD kvs' (.inl (here : Int)) (.bl true)))) := v_setD h4 (by simp at h1; omega)
      have hg8 : (m1.set k6 (.dic (putD kvs' (.inl (here : Int)) (.bl true))))[k8]? = some (.lst (rim.map I)) := by rw [List.getElem?_set_ne n3]; exact h6
      have happ : mAppend (.ref k8) [I here] (m1.set k6 (.dic (putD kvs' (.inl (here : Int)) (.bl true)))) = .ok .non ((m1.set k6 (.dic (putD kvs' (.inl (here : Int)) (.bl true)))).set k8 (.lst (rim.map I ++ [I here]))) := v_append hg8 (by simp at h1 ⊢; omega)
      have hgl : isL (.ref k8) (m1.set k6 (.dic (putD kvs' (.inl (here : Int)) (.bl true)))) = true := w_isL hg8
      obtain ⟨m2, hm2⟩ : ∃ m2, m2 = (m1.set k6 (.dic (putD kvs' (.inl (here : Int)) (.bl true)))).set k8 (.lst (rim.map I ++ [I here])) := ⟨_, rfl⟩
      have hka2 : m2[ka]? = some (.dic (aK rs rs.flatten)) := by rw [hm2, List.getElem?_set_ne (Ne.symm n2), List.getElem?_set_ne (Ne.symm n1)]; exact hka
      have hgo : dIx (.ref ka) (I (Ch.o here)) m2 = .ok (I nx) m2 := v_getD hka2 (by rw [aK_get hom, hprd])
      rw [← hm2] at happ
      simp [wIn, v_notIn h4, hs', hset, w_mt, hgl, happ, w_other, hgo]
      refine ⟨j + 1, nx, _, putD kvs' (.inl (here : Int)) (.bl true), rim ++ [here], by simp at h1; omega, (Ch.cy_mem hnx).2, rfl, h3.trans ?_, ?_, ?_, ?_, by simp; omega, ?_, .inr (by simp)⟩
      · rw [hm2]; exact (Kp.set (by simp)).trans (Kp.set (by simp))
      · rw [hm2, List.getElem?_set_ne (Ne.symm n3)]; exact get_set h4
      · have := putD_len kvs' (.inl (here : Int)) (.bl true); omega
      · rw [hm2, get_set hg8]; simp
      · intro e he
        rcases List.mem_append.mp he with z | z
        · exact h8 e z
        · rw [List.mem_singleton.mp z]; exact h2
  · exact ⟨0, a, _, kvs, [], rfl, haq, rfl, Kp.refl, hm6, by omega, hm8, by simp, fun _ z => (by cases z), .inl ⟨rfl, hnew⟩⟩
  · rintro e1 m1 ⟨j, here, y10, kvs', rim, h1, h2, rfl, h3, h4, h5, h6, h7, h8, h9⟩
    simp at h1
    refine ⟨⟨_, _, rfl⟩, h3, kvs', rim, h4, by omega, h6, ?_, by omega, h8⟩
    rcases h9 with ⟨z, _⟩ | z
    · omega
    · exact z
end Cl
set_option Elab.async false
set_option linter.all false
set_option maxRecDepth 100000
namespace Cl
open PySem PySem.Spec PyProof.Rows L2 Ab
def tI (r : List Nat) : D := .tup (r.map I)
/-- rims, or parts of them -/
def Parts (rims : List (List Nat)) (N : Nat) (fs : List (List Nat)) : Prop := ∀ f ∈ fs, f ≠ [] ∧ f.length ≤ N ∧ ∃ q ∈ rims, ∀ e ∈ f, e ∈ q
noncomputable def wOut : AS := sIf (tVal (eOp dNotIn (eVar 7) (eVar 6)))
    (sSeq (sAsg (eCall mkLst (aNil)) (gN 8))
    (sSeq (sAsg (eVar 7) (gN 9))
    (sSeq (sFor (iA rng1 (aCons (eCall bLen (aCons (eVar 1) (aNil))) (aNil))) (gN 10) wIn)
    (sExp (eMt isL mAppend (eVar 5) (aCons (eCall bTuple (aCons (eVar 8) (aNil))) (aNil)))))))
    (sSkip)
theorem mk0 {m : Mem} : mkLst [] m = .ok (.ref m.length) (m ++ [.lst []]) := if_pos (by rw [show sizeLine = 2 ^ 24 from rfl]; simp)
theorem v_lenD {n : Nat} {m : Mem} {kvs : List (Key × D)} (h : m[n]? = some (.dic kvs)) : bLen [.ref n] m = .ok (.int (kvs.length : Int)) m := by
  unfold bLen itemsD
  simp only [h]
theorem v_rng {j : Nat} {m : Mem} (h : j < 1000) : rng1 [.int (j : Int)] m = .ok ((List.range j).map fun (i : Nat) => .int (i : Int), []) m := by
  unfold rng1
  dsimp only
  rw [if_pos ⟨by omega, by omega⟩, Int.toNat_natCast]
theorem w_iA {f : List D → Mem → R (List D × Gd)} {aa : AA} {e : Env'} {m : Mem} : iA f aa e m = (aa e m).bind f := rfl
theorem v_tupL {n : Nat} {m : Mem} {ds : List D} (h : m[n]? = some (.lst ds)) : bTuple [.ref n] m = .ok (.tup ds) m := by
  unfold bTuple itemsD
  simp only [h]
theorem w_out {rs rims : List (List Nat)} {N : Nat} (F : Ch.Flat rs rims N) (hN : N ≤ 200) (hN0 : 0 < N) {ka k5 k6 kl : Nat} {R0 : D} {x2 x3 x4 x7 x8 x9 x10 : Option D} {m : Mem} {as : List Nat}
    (ha : ∀ e ∈ as, e < N) (hal : as.length ≤ N) (has : 0 < as.length)
    (hm1 : m[ka]? = some (.dic (aK rs rs.flatten))) (hm5 : m[k5]? = some (.lst [])) (hm6 : m[k6]? = some (.dic [])) (hml : m[kl]? = some (.lst (as.map I))) (n1 : ka ≠ k6) (n2 : ka ≠ k5) (n3 : k5 ≠ k6) (n4 : kl ≠ k5) (n5 : kl ≠ k6) :
    Nx (forL (gN 7) wOut [(kl, .lst (as.map I))] (as.map I) [some R0, some (.ref ka), x2, x3, x4, some (.ref k5), some (.ref k6), x7, x8, x9, x10] m) fun e' m' => (∃ y7 y8 y9 y10, e' = [some R0, some (.ref ka), x2, x3, x4, some (.ref k5), some (.ref k6), y7, y8, y9, y10]) ∧ Kp [k5, k6] m m' ∧
      ∃ fs : List (List Nat), m'[k5]? = some (.lst (fs.map tI)) ∧ fs ≠ [] ∧ fs.length ≤ N ∧ Parts rims N fs := by
  have hz : sizeLine = 2 ^ 24 := rfl
  have hlenK : (aK rs rs.flatten).length = N := by
    have := F.rN.length_eq
    rw [List.length_range] at this
    unfold aK
    rw [List.length_map]; exact this
  let Inv : List D → Env' → Mem → Prop := fun rest e' m' => ∃ (i : Nat) (t : List Nat) (kvs : List (Key × D)) (fs : List (List Nat)), rest = t.map I ∧ (∀ e ∈ t, e < N) ∧ t.length + i = as.length ∧ (∃ y7 y8 y9 y10, e' = [some R0, some (.ref ka), x2, x3, x4, some (.ref k5), some (.ref k6), y7, y8, y9, y10]) ∧ Kp [k5, k6] m m' ∧
    m'[k6]? = some (.dic kvs) ∧ kvs.length ≤ i * 200 ∧ m'[k5]? = some (.lst (fs.map tI)) ∧ fs.length ≤ i ∧ Parts rims N fs ∧ ((i = 0 ∧ kvs = []) ∨ fs ≠ [])
  have gd : ∀ e m', Inv [] e m' ∨ (∃ d r, Inv (d :: r) e m') → Gd.Ok [(kl, .lst (as.map I))] m' := by
    intro e m' h p hp
    rw [List.mem_singleton.mp hp]
    have : ∃ r, Inv r e m' := by rcases h with h | ⟨d, r, h⟩; exact ⟨_, h⟩; exact ⟨_, h⟩
    obtain ⟨r, i, t, kvs, fs, _, _, _, _, h4, _⟩ := this
    exact h4 _ _ hml (by simp [n4, n5])
  refine nx_mono (forL_go Inv ?_ (fun e m' h => gd e m' (.inl h)) _ _ _ ?_) ?_
  · intro d rest e1 m1 hI
    refine ⟨gd e1 m1 (.inr ⟨d, rest, hI⟩), ?_⟩
    obtain ⟨i, t, kvs, fs, h1, h2, h3, ⟨y7, y8, y9, y10, rfl⟩, h4, h5, h6, h7, h8, h9, h10⟩ := hI
    cases t with
    | nil => cases h1
    | cons a t =>
      rw [List.map_cons] at h1
      cases h1
      refine ⟨_, rfl, ?_⟩
      have haN := h2 a List.mem_cons_self
      have hka : m1[ka]? = some (.dic (aK rs rs.flatten)) := h4 _ _ hm1 (by simp [n1, n2])
      by_cases hs : (valD kvs (.inl (a : Int))).isSome = true
      · simp [wOut, v_notIn h5, hs]
        refine ⟨i + 1, t, kvs, fs, rfl, fun e he => h2 e (List.mem_cons_of_mem _ he), by simp at h3; omega, ⟨_, _, _, _, rfl⟩, h4, h5, by omega, h7, by omega, h9, ?_⟩
        right
        rcases h10 with ⟨_, z⟩ | z
        · rw [z] at hs; cases hs
        · exact z
      · have hs' : (valD kvs (.inl (a : Int))).isSome = false := by simpa using hs
        have hnew : valD kvs (.inl (a : Int)) = none := by simpa using hs'
        have haf : a ∈ rims.flatten := F.mN.mem_iff.mpr (List.mem_range.mpr haN)
        obtain ⟨q, hq, haq⟩ := List.mem_flatten.mp haf
        obtain ⟨m2, hm2⟩ : ∃ m2, m2 = m1 ++ [Cell.lst []] := ⟨_, rfl⟩
        have p2 : Pre m1 m2 := by rw [hm2]; exact .add
        have g8 : m2[m1.length]? = some (.lst []) := by rw [hm2]; exact new_get
        have l1 : ∀ {k : Nat} {c : Cell}, m1[k]? = some c → k ≠ m1.length := fun e z => by
          have := (List.getElem?_eq_some_iff.mp e).1
          omega
        have hlen : bLen [.ref ka] m2 = .ok (.int (N : Int)) m2 := by rw [v_lenD (p2 _ _ hka), hlenK]
        simp [wOut, v_notIn h5, hs', mk0, ← hm2]
        refine seq_n ?_
        rw [w_for, w_iA]
        have hr : ((aCons (eCall bLen (aCons (eVar 1) aNil)) aNil) [some R0, some (.ref ka), x2, x3, x4, some (.ref k5), some (.ref k6), some (I a), some (.ref m1.length), some (I a), y10] m2).bind rng1 = .ok ((List.range N).map fun (i : Nat) => .int (i : Int), []) m2 := by
          have e0 : (aCons (eCall bLen (aCons (eVar 1) aNil)) aNil) [some R0, some (.ref ka), x2, x3, x4, some (.ref k5), some (.ref k6), some (I a), some (.ref m1.length), some (I a), y10] m2 = .ok [.int (N : Int)] m2 := by
            rw [v_cons, v_call, v_cons, v_vs, v_v0 (z := none), v_bind, v_nil, v_bind, v_bind, hlen, v_bind]
            rfl
          rw [e0, v_bind]
          exact v_rng (Nat.lt_of_le_of_lt hN (by decide))
        rw [hr, v_o]
        dsimp only
        refine nx_mono (w_walk F hq haq (x5 := some (.ref k5)) (x7 := some (I a)) (p2 _ _ hka) (p2 _ _ h5) g8 hnew n1 (l1 hka) (l1 h5) (by simp at h3 ⊢; omega) (by simp; exact hN0)) ?_
        rintro e2 m3 ⟨⟨z9, z10, rfl⟩, k1, kvs', rim, k2, k3, k4, k5', k6', k7⟩
        have h53 : m3[k5]? = some (.lst (fs.map tI)) := k1 _ _ (p2 _ _ h7) (by simp [n3, l1 h7])
        have happ : mAppend (.ref k5) [.tup (rim.map I)] m3 = .ok .non (m3.set k5 (.lst (fs.map tI ++ [.tup (rim.map I)]))) := v_append h53 (by simp at h3 ⊢; omega)
        simp [w_mt, w_isL h53, v_tupL k4, happ]
        simp at k3 k6'
        refine ⟨i + 1, t, kvs', fs ++ [rim], rfl, fun e he => h2 e (List.mem_cons_of_mem _ he), by simp at h3; omega, ⟨_, _, _, _, rfl⟩, h4.trans ?_, ?_, by omega, ?_, by simp; omega, ?_, .inr (by simp)⟩
        · have c1 : Kp [k5, k6] m1 m3 := fun j c e nj => by
            refine k1 j c (p2 j c e) ?_
            simp at nj ⊢
            exact ⟨nj.2, l1 e⟩
          exact c1.trans (Kp.set (by simp))
        · rw [List.getElem?_set_ne n3]; exact k2
        · rw [get_set h53]; simp [tI]
        · intro f hf
          rcases List.mem_append.mp hf with z | z
          · exact h9 f z
          · rw [List.mem_singleton.mp z]; exact ⟨k5', k6', q, hq, k7⟩
  · exact ⟨0, as, [], [], rfl, ha, rfl, ⟨_, _, _, _, rfl⟩, Kp.refl, hm6, by simp, by simpa using hm5, by simp, (fun f hf => by cases hf), .inl ⟨rfl, rfl⟩⟩
  · rintro e1 m1 ⟨i, t, kvs, fs, h1, h2, h3, h4, h5, h6, h7, h8, h9, h10, h11⟩
    have ht : t = [] := by cases t with | nil => rfl | cons a t => cases h1
    subst ht
    simp at h3
    refine ⟨h4, h5, fs, h8, ?_, by omega, h10⟩
    rcases h11 with ⟨z, _⟩ | z
    · omega
    · exact z
end Cl
set_option Elab.async false
set_option linter.all false
set_option maxRecDepth 100000
namespace Cl
open PySem PySem.Spec PyProof.Rows L2 Ab
theorem intsI : ∀ l : List Nat, intsD (l.map I) = some (l.map fun (n : Nat) => (n : Int))
  | [] => rfl
  | x :: l => by
    show (intsD (l.map I)).map ((x : Int) :: ·) = _
    rw [intsI l]; rfl
theorem sort_nat (l : List Nat) : ∃ as : List Nat, (sortI (l.map fun (n : Nat) => (n : Int))).map D.int = as.map I ∧ as.Perm l := by
  have hp := sortI_perm (l.map fun (n : Nat) => (n : Int))
  refine ⟨(sortI (l.map fun (n : Nat) => (n : Int))).map Int.toNat, ?_, ?_⟩
  · rw [List.map_map]
    refine List.map_congr_left fun z hz => ?_
    have : z ∈ l.map fun (n : Nat) => (n : Int) := hp.mem_iff.mp hz
    obtain ⟨n, _, rfl⟩ := List.mem_map.mp this
    rfl
  · have := hp.map Int.toNat
    rw [List.map_map] at this
    have e : (l.map (Int.toNat ∘ fun (n : Nat) => (n : Int))) = l := by
      conv => rhs; rw [← List.map_id l]
      exact List.map_congr_left fun z _ => rfl
    rw [e] at this
    exact this
theorem keys_aK {rs : List (List Nat)} {l : List Nat} : (aK rs l).map (fun kv => keyI kv.1) = l.map I := by
  unfold aK
  rw [List.map_map]
  rfl
theorem w_rims {m : Mem} {rr N : Nat} {ks : List Nat} {rs rims : List (List Nat)} (F : Ch.Flat rs rims N) (hN : N ≤ 200) (hN0 : 0 < N) (h1 : m[rr]? = some (.lst (ks.map D.ref))) (h2 : ks.length = rs.length)
    (h3 : ∀ (i k : Nat) (r : List Nat), ks[i]? = some k → rs[i]? = some r → m[k]? = some (.lst (r.map I))) :
    Ok (f_law_rims [.ref rr] m) fun d m' => ∃ k fs, d = .ref k ∧ Pre m m' ∧ m.length ≤ k ∧ m'[k]? = some (.lst (fs.map tI)) ∧ fs ≠ [] ∧ fs.length ≤ N ∧ Parts rims N fs := by
  have hlf : rs.flatten.length = N := by have := F.rN.length_eq; rw [List.length_range] at this; exact this
  obtain ⟨m1, hm1⟩ : ∃ m1, m1 = m ++ [Cell.dic []] := ⟨_, rfl⟩
  have p1 : Pre m m1 := by rw [hm1]; exact .add
  have g1 : m1[m.length]? = some (.dic []) := by rw [hm1]; exact new_get
  have lt : ∀ {k : Nat} {c : Cell}, m[k]? = some c → k < m.length := fun e => (List.getElem?_eq_some_iff.mp e).1
  have ltr := lt h1
  have hdic : ∀ e m, eCall (fun _ => mkDic []) aNil e m = .ok (.ref m.length) (m ++ [.dic []]) := fun _ _ => rfl
  unfold f_law_rims afOf a_law_rims
  rw [v_seq, v_asg, hdic, v_o, v_gN, v_o, v_nx, v_seq, ← hm1]
  have hit : ∀ m', Fr m.length m1 m' → m'[rr]? = some (.lst (ks.map D.ref)) := fun m' a => a _ _ (p1 _ _ h1) (by omega)
  refine seq_f ?_
  rw [w_for, w_iE]
  have e0 : (eVar 0 ([some (D.ref rr)] ++ List.replicate 10 none |>.set 1 (some (.ref m.length))) m1).bind itD = .ok (ks.map D.ref, [(rr, .lst (ks.map D.ref))]) m1 := by
    show itD (.ref rr) m1 = _
    unfold itD
    simp only [hit m1 .refl]
  show Nx (((eVar 0 ([some (D.ref rr)] ++ List.replicate 10 none |>.set 1 (some (.ref m.length))) m1).bind itD).o _ _) _
  rw [e0, v_o]
  show Nx (forL (gN 2) wAh2 _ _ (some (.ref rr) :: some (.ref m.length) :: none :: none :: none :: List.replicate 6 none) m1) _
  refine nx_mono (w_ah2 (rs := rs) F.nd (by omega) (by simpa using h2) ?_ g1 ?_) ?_
  · intro i d r e1 e2
    rw [List.getElem?_map] at e1
    cases e3 : ks[i]? with
    | none => rw [e3] at e1; cases e1
    | some k =>
      rw [e3] at e1; cases e1
      have hk := h3 i k r e3 e2
      exact rowAt_lst F.nd (List.mem_of_getElem? e2) (p1 _ _ hk) (by have := lt hk; omega)
  · intro m' a p hp
    rw [List.mem_singleton.mp hp]
    exact hit m' a
  · rintro e2 m2 ⟨⟨y2, y3, y4, rfl⟩, f2, g2⟩
    have p2 : Pre m m2 := fun i c e => f2 i c (p1 i c e) (by have := lt e; omega)
    have lka : m.length < m2.length := (List.getElem?_eq_some_iff.mp g2).1
    obtain ⟨m3, hm3⟩ : ∃ m3, m3 = m2 ++ [Cell.lst []] := ⟨_, rfl⟩
    obtain ⟨m4, hm4⟩ : ∃ m4, m4 = m3 ++ [Cell.dic []] := ⟨_, rfl⟩
    obtain ⟨m5, hm5⟩ : ∃ m5, m5 = m4 ++ [Cell.lst (rs.flatten.map I)] := ⟨_, rfl⟩
    obtain ⟨as, ha1, ha2⟩ := sort_nat rs.flatten
    obtain ⟨m6, hm6⟩ : ∃ m6, m6 = m5 ++ [Cell.lst (as.map I)] := ⟨_, rfl⟩
    have p3 : Pre m2 m3 := by rw [hm3]; exact .add
    have p4 : Pre m3 m4 := by rw [hm4]; exact .add
    have p5 : Pre m4 m5 := by rw [hm5]; exact .add
    have p6 : Pre m5 m6 := by rw [hm6]; exact .add
    have l3 : m3.length = m2.length + 1 := by rw [hm3]; simp
    have l4 : m4.length = m3.length + 1 := by rw [hm4]; simp
    have l5 : m5.length = m4.length + 1 := by rw [hm5]; simp
    have q3 : m3[m2.length]? = some (.lst []) := by rw [hm3]; exact new_get
    have q4 : m4[m3.length]? = some (.dic []) := by rw [hm4]; exact new_get
    have q5 : m5[m4.length]? = some (.lst (rs.flatten.map I)) := by rw [hm5]; exact new_get
    have q6 : m6[m5.length]? = some (.lst (as.map I)) := by rw [hm6]; exact new_get
    have p26 : Pre m2 m6 := ((p3.trans p4).trans p5).trans p6
    show Ok ((O.seq (sAsg (eCall mkLst aNil) (gN 5) (some (.ref rr) :: some (.ref m.length) :: y2 :: y3 :: y4 :: List.replicate 6 none) m2) _).f) _
    have s3 : sAsg (eCall mkLst aNil) (gN 5) (some (.ref rr) :: some (.ref m.length) :: y2 :: y3 :: y4 :: List.replicate 6 none) m2 = .nx [some (.ref rr), some (.ref m.length), y2, y3, y4, some (.ref m2.length), none, none, none, none, none] m3 := by
      rw [v_asg, v_call, v_nil, v_bind, mk0, v_o, v_gN, v_o, hm3]; rfl
    rw [s3, v_nx, v_seq, v_asg, hdic, v_o, v_gN, v_o, v_nx, v_seq, ← hm4]
    refine seq_f ?_
    rw [w_for, w_iE]
    have e4 : (eCall bSorted (aCons (eCall bList (aCons (eVar 1) aNil)) aNil) [some (.ref rr), some (.ref m.length), y2, y3, y4, some (.ref m2.length), some (.ref m3.length), none, none, none, none] m4).bind itD = .ok (as.map I, [(m5.length, .lst (as.map I))]) m6 := by
      have c1 : bList [.ref m.length] m4 = .ok (.ref m4.length) m5 := by
        have : m4[m.length]? = some (.dic (aK rs rs.flatten)) := p4 _ _ (p3 _ _ g2)
        unfold bList itemsD
        simp only [this]
        rw [keys_aK, hm5]
      have c2 : bSorted [.ref m4.length] m5 = .ok (.ref m5.length) m6 := by
        unfold bSorted itemsD
        simp only [q5, intsI]
        rw [ha1, hm6]
      have c3 : itD (.ref m5.length) m6 = .ok (as.map I, [(m5.length, .lst (as.map I))]) m6 := by
        unfold itD
        simp only [q6]
      rw [v_call, v_cons, v_call, v_cons, v_vs, v_v0 (z := none), v_bind, v_nil, v_bind, v_bind, c1, v_bind, v_nil, v_bind, v_bind, c2, v_bind, c3]
    show Nx (((eCall bSorted (aCons (eCall bList (aCons (eVar 1) aNil)) aNil) [some (.ref rr), some (.ref m.length), y2, y3, y4, some (.ref m2.length), some (.ref m3.length), none, none, none, none] m4).bind itD).o _ _) _
    rw [e4, v_o]
    have hal : as.length = N := by rw [ha2.length_eq]; exact hlf
    refine nx_mono (w_out (rs := rs) F hN hN0 (fun e he => List.mem_range.mp (F.rN.mem_iff.mp (ha2.mem_iff.mp he))) (by omega) (by omega) (p26 _ _ g2) (p6 _ _ (p5 _ _ (p4 _ _ q3))) (p6 _ _ (p5 _ _ q4)) q6 (by omega) (by omega) (by omega) (by omega) (by omega)) ?_
    rintro e5 m7 ⟨⟨y7, y8, y9, y10, rfl⟩, k1, fs, k2, k3, k4, k5⟩
    refine ⟨m2.length, fs, rfl, fun i c e => k1 i c (p26 _ _ (p2 _ _ e)) ?_, by omega, k2, k3, k4, k5⟩
    have := lt e
    simp
    omega
end Cl
set_option Elab.async false
set_option linter.all false
set_option maxRecDepth 100000
namespace Cl
open PySem PySem.Spec PyProof.Rows L2 Ab
def At (rs : List (List Nat)) (y p : Nat) : Prop := ∃ r, rs[p]? = some r ∧ y ∈ r
theorem At.set {rs : List (List Nat)} {y p q e x : Nat} {r : List Nat} (h : At rs y p) (hq : rs[q]? = some r) : At (rs.set q (Ch.put r e x)) y p := by
  obtain ⟨r', h1, h2⟩ := h
  by_cases z : q = p
  · subst z
    rw [hq] at h1; cases h1
    exact ⟨_, List.getElem?_set_self (List.getElem?_eq_some_iff.mp hq).1, put_mem.mpr (.inr h2)⟩
  · exact ⟨r', by rw [List.getElem?_set_ne z]; exact h1, h2⟩
theorem At.new {rs : List (List Nat)} {q e x : Nat} {r : List Nat} (hq : rs[q]? = some r) : At (rs.set q (Ch.put r e x)) x q :=
  ⟨_, List.getElem?_set_self (List.getElem?_eq_some_iff.mp hq).1, put_mem.mpr (.inl rfl)⟩
theorem At.lt {rs : List (List Nat)} {y p : Nat} (h : At rs y p) : p < rs.length := by
  obtain ⟨r, h1, _⟩ := h
  exact (List.getElem?_eq_some_iff.mp h1).1
theorem G.more {arr : List (Nat × Nat)} {rs rs' : List (List Nat)} (g : G arr rs) {p q : Nat} (hl : rs'.length = rs.length) (hf : ∃ rims, Ch.Flat rs' rims (2 * arr.length + 2) ∧ rs.length + rims.length = arr.length + 3) (old : ∀ y x, At rs y x → At rs' y x)
    (h1 : At rs' (2 * arr.length) p) (h2 : At rs' (2 * arr.length + 1) q) : G (arr ++ [(p, q)]) rs' := by
  obtain ⟨rims, F, hF⟩ := hf
  refine ⟨⟨rims, by simpa [Nat.mul_add] using F, by simp; omega⟩, by simp, fun y hy => ?_, fun S h0 hS z hz => ?_⟩
  · by_cases hy2 : y < 2 * arr.length
    · rw [pl_old hy2]
      exact old _ _ (g.at' y hy2)
    · have : y = 2 * arr.length ∨ y = 2 * arr.length + 1 := by simp at hy; omega
      rcases this with rfl | rfl
      · rw [pl_new0]; exact h1
      · rw [pl_new1]; exact h2
  · rw [hl] at hz
    exact g.conn S h0 (fun p hp => hS p (List.mem_append_left _ hp)) z hz
theorem G.loop {arr : List (Nat × Nat)} {rs : List (List Nat)} (g : G arr rs) {e : Nat} {r : List Nat} (he : e < 2 * arr.length) (hr : rs[pl arr e]? = some r) :
    G (arr ++ [(pl arr e, pl arr e)]) (rs.set (pl arr e) (Ch.put (Ch.put r e (2 * arr.length + 1)) e (2 * arr.length))) := by
  obtain ⟨rims, F, hF⟩ := g.flat
  have hp : pl arr e < rs.length := (List.getElem?_eq_some_iff.mp hr).1
  have her : e ∈ r := by
    obtain ⟨r', h1, h2⟩ := g.at' e he
    rw [hr] at h1; cases h1; exact h2
  have hr1 : (rs.set (pl arr e) (Ch.put r e (2 * arr.length + 1)))[pl arr e]? = some (Ch.put r e (2 * arr.length + 1)) := List.getElem?_set_self hp
  have h1 := putIn_at (x := 2 * arr.length + 1) hr her
  have h2 := putIn_at (x := 2 * arr.length) hr1 (put_mem.mpr (.inr her))
  obtain ⟨rims', k1, k2⟩ := F.loop he h1 h2
  have o1 : ∀ y x, At rs y x → At (rs.set (pl arr e) (Ch.put r e (2 * arr.length + 1))) y x := fun y x h => h.set hr
  have e2 : ∀ A B, (rs.set (pl arr e) A).set (pl arr e) B = rs.set (pl arr e) B := fun A B => by rw [List.set_set]
  rw [← e2 (Ch.put r e (2 * arr.length + 1))]
  exact g.more (by simp) ⟨rims', k2, by omega⟩ (fun y x h => (o1 y x h).set hr1) (At.new hr1) ((At.new hr).set hr1)
theorem G.tie {arr : List (Nat × Nat)} {rs : List (List Nat)} (g : G arr rs) {e f : Nat} {r r' : List Nat} (he : e < 2 * arr.length) (hf : f < 2 * arr.length) (hne : e ≠ f) {rims : List (List Nat)} (F : Ch.Flat rs rims (2 * arr.length)) (hF : rs.length + rims.length = arr.length + 2)
    (hq : ∃ q ∈ rims, e ∈ q ∧ f ∈ q) (hr : rs[pl arr e]? = some r) (hr' : (rs.set (pl arr e) (Ch.put r e (2 * arr.length)))[pl arr f]? = some r') :
    G (arr ++ [(pl arr e, pl arr f)]) ((rs.set (pl arr e) (Ch.put r e (2 * arr.length))).set (pl arr f) (Ch.put r' f (2 * arr.length + 1))) := by
  have her : e ∈ r := by
    obtain ⟨r', h1, h2⟩ := g.at' e he
    rw [hr] at h1; cases h1; exact h2
  have hfr : f ∈ r' := by
    obtain ⟨r2, h1, h2⟩ := At.set (e := e) (x := 2 * arr.length) (g.at' f hf) hr
    rw [hr'] at h1; cases h1; exact h2
  obtain ⟨rims', k1, k2⟩ := F.tie he hf hne hq (putIn_at hr her) (putIn_at hr' hfr)
  exact g.more (by simp) ⟨rims', k2, by omega⟩ (fun y x h => (h.set hr).set hr') ((At.new hr).set hr') (At.new hr')
/-- a list of rows that lie in the heap -/
def RowsH (h : Nat) (m : Mem) (ks : List Nat) (rs : List (List Nat)) : Prop := ks.length = rs.length ∧ ∀ (i k : Nat) (r : List Nat), ks[i]? = some k → rs[i]? = some r → m[k]? = some (.lst (r.map I)) ∧ k ≠ h
theorem RowsH.fr {h : Nat} {m m' : Mem} {ks : List Nat} {rs : List (List Nat)} (R : RowsH h m ks rs) (a : Fr h m m') : RowsH h m' ks rs := ⟨R.1, fun i k r e1 e2 => ⟨a _ _ (R.2 i k r e1 e2).1 (R.2 i k r e1 e2).2, (R.2 i k r e1 e2).2⟩⟩
theorem RowsH.set {h : Nat} {m : Mem} {ks : List Nat} {rs : List (List Nat)} (R : RowsH h m ks rs) {p k : Nat} {r : List Nat} (hk : m[k]? = some (.lst (r.map I))) (n : k ≠ h) : RowsH h m (ks.set p k) (rs.set p r) := by
  refine ⟨by simp [R.1], fun i k' r' e1 e2 => ?_⟩
  by_cases z : p = i
  · subst z
    have hp : p < ks.length := by
      have := (List.getElem?_eq_some_iff.mp e1).1
      simpa using this
    rw [List.getElem?_set_self hp] at e1
    rw [List.getElem?_set_self (by rw [← R.1]; exact hp)] at e2
    cases e1; cases e2
    exact ⟨hk, n⟩
  · rw [List.getElem?_set_ne z] at e1 e2
    exact R.2 i k' r' e1 e2
theorem ixN_n {n j : Nat} (h : j < n) : ixN n (j : Int) = some j := by
  unfold ixN
  rw [if_pos (by omega), if_pos (by omega)]
  simp
theorem w_tied {h : Nat} {m : Mem} {ra rr : Nat} {arr : List (Nat × Nat)} {rs : List (List Nat)} (H : HandOK h m) (C : ChM h m ra rr arr rs) (g : G arr rs) (hb : arr.length < 100) :
    Ok (f_law_tied [.ref h, .ref ra, .ref rr, .bl true] m) (Grown h m arr.length) := by
  have hz : sizeLine = 2 ^ 24 := rfl
  have hpos := g.pos
  have t1 : ∀ (w : Int) (m : Mem), dMul (.int 2) (.int w) m = .ok (.int (2 * w)) m := fun w m => v_mul (.inl (by decide))
  have t2 : ∀ (w : Int) (m : Mem), dMod (.int w) (.int 2) m = .ok (.int (w.fmod 2)) m := fun w m => v_mod (by decide)
  have t3 : ∀ (w : Int) (m : Mem), dFdiv (.int w) (.int 2) m = .ok (.int (w.fdiv 2)) m := fun w m => v_fdiv ⟨by decide, by decide⟩
  obtain ⟨rims, F, hF⟩ := g.flat
  obtain ⟨ks, k1, k2, k3⟩ := C.hr
  have hh : h < m.length := by
    obtain ⟨_, _, _, _, _, _, z, _⟩ := H
    exact (List.getElem?_eq_some_iff.mp z).1
  obtain ⟨_, m1, e1, kf, fs, rfl, p1, l1, q1, fs0, fsl, hP⟩ := ok_ex (w_rims F (by omega) (by omega) k1 k2 (fun i k r a b => (k3 i k r a b).1))
  have H1 := H.pre p1
  have hfs : 0 < fs.length := by cases fs with | nil => exact absurd rfl fs0 | cons a l => simp
  obtain ⟨_, m2, e2, v1, rfl, hv1, f2, H2⟩ := ok_ex (w_draw H1 (many := (fs.length : Int)) (by omega) (by omega))
  have hv1' : v1 < fs.length := by omega
  have hkf : kf ≠ h := by omega
  have q2 := f2 _ _ q1 hkf
  obtain ⟨f, hf⟩ : ∃ f, f = fs[v1] := ⟨_, rfl⟩
  have x1 : dIx (.ref kf) (.int (v1 : Int)) m2 = .ok (tI f) m2 := v_ixL q2 (atI_nat (by rw [List.getElem?_map, List.getElem?_eq_getElem hv1', hf]; rfl))
  obtain ⟨hf0, hfl, q, hq, hfq⟩ := hP f (by rw [hf]; exact List.getElem_mem hv1')
  have hfp : 0 < f.length := by cases f with | nil => exact absurd rfl hf0 | cons a l => simp
  obtain ⟨_, m3, e3, v2, rfl, hv2, f3, H3⟩ := ok_ex (w_draw H2 (many := (f.length : Int)) (by omega) (by omega))
  obtain ⟨_, m4, e4, v3, rfl, hv3, f4, H4⟩ := ok_ex (w_draw H3 (many := (f.length : Int)) (by omega) (by omega))
  obtain ⟨a, ha⟩ : ∃ a, a = f[v2]'(by omega) := ⟨_, rfl⟩
  obtain ⟨b, hb2⟩ : ∃ b, b = f[v3]'(by omega) := ⟨_, rfl⟩
  have x2 : ∀ m, dIx (tI f) (.int (v2 : Int)) m = .ok (I a) m := fun m => v_ixT (atI_nat (by rw [List.getElem?_map, List.getElem?_eq_getElem (by omega), ha]; rfl))
  have x3 : ∀ m, dIx (tI f) (.int (v3 : Int)) m = .ok (I b) m := fun m => v_ixT (atI_nat (by rw [List.getElem?_map, List.getElem?_eq_getElem (by omega), hb2]; rfl))
  have haq : a ∈ q := hfq a (by rw [ha]; exact List.getElem_mem _)
  have hbq : b ∈ q := hfq b (by rw [hb2]; exact List.getElem_mem _)
  have inN : ∀ e, e ∈ q → e < 2 * arr.length := fun e he => List.mem_range.mp (F.mN.mem_iff.mp (List.mem_flatten.mpr ⟨q, hq, he⟩))
  have haN := inN a haq
  have hbN := inN b hbq
  have f04 : Fr h m m4 := ((p1.fr.trans f2).trans f3).trans f4
  have C4 := C.fr f04
  have R4 : RowsH h m4 ks rs := RowsH.fr ⟨k2, k3⟩ f04
  have g4 : m4[rr]? = some (.lst (ks.map D.ref)) := f04 _ _ k1 C.nr
  obtain ⟨pa, y1, y2⟩ := w_placeOf C4.ha haN
  obtain ⟨pb, y3, y4⟩ := w_placeOf C4.ha hbN
  obtain ⟨r, hr, har⟩ := g.at' a haN
  have hp := (List.getElem?_eq_some_iff.mp hr).1
  obtain ⟨r2, hr2, hbr⟩ := g.at' b hbN
  have hp2 := (List.getElem?_eq_some_iff.mp hr2).1
  have hrl : r.length < 999 := by have := g.row (List.mem_of_getElem? hr); omega
  have hrl2 : r2.length < 998 := by have := g.row (List.mem_of_getElem? hr2); omega
  have hrs := g.rows
  have lenA : bLen [.ref ra] m4 = .ok (.int (arr.length : Int)) m4 := by rw [v_lenL C4.ha]; simp
  have lenF : bLen [.ref kf] m1 = .ok (.int (fs.length : Int)) m1 := by rw [v_lenL q1]; simp
  have lenT : ∀ m, bLen [tI f] m = .ok (.int (f.length : Int)) m := fun m => by unfold tI; rw [v_lenT]; simp
  obtain ⟨m5, hm5⟩ : ∃ m5, m5 = m4 ++ [Cell.lst (ks.map D.ref)] := ⟨_, rfl⟩
  have p5 : Pre m4 m5 := by rw [hm5]; exact .add
  have g5 : m5[m4.length]? = some (.lst (ks.map D.ref)) := by rw [hm5]; exact new_get
  have s5 : bList [.ref rr] m4 = .ok (.ref m4.length) m5 := by
    unfold bList itemsD
    simp only [g4]
    rw [hm5]
  have h4 : h < m4.length := by
    obtain ⟨_, _, _, _, _, _, z, _⟩ := H4
    exact (List.getElem?_eq_some_iff.mp z).1
  have nl : m4.length ≠ h := by omega
  -- what is left of the chart where the later list is made
  have fin : ∀ (m8 : Mem) (ks' : List Nat) (rs' : List (List Nat)), Fr h m4 m8 → HandOK h m8 → m8[m4.length]? = some (.lst (ks'.map D.ref)) → RowsH h m8 ks' rs' → G (arr ++ [(pl arr a, pl arr b)]) rs' →
      Rt (sRet (eCall mkTup (aCons (eOp dAdd (eVar 1) (eCall mkLst (aCons (eCall mkTup (aCons (eVar 11) (aCons (eVar 12) (aNil)))) (aNil)))) (aCons (eVar 13) (aNil))))
        [some (.ref h), some (.ref ra), some (.ref rr), some (.bl true), some (.ref kf), some (tI f), some (I a), some (I b), some (.int (2 * (arr.length : Int))), some (I a), some (I b), some (I (pl arr a)), some (I (pl arr b)), some (.ref m4.length)] m8) (Grown h m arr.length) := by
    intro m8 ks' rs' f8 H8 g8 R8 gn
    have sc : mkLst [pD (pl arr a, pl arr b)] m8 = .ok (.ref m8.length) (m8 ++ [.lst [pD (pl arr a, pl arr b)]]) := v_lst (by rw [hz]; simp)
    have dq : D.tup [I (pl arr a), I (pl arr b)] = pD (pl arr a, pl arr b) := rfl
    have ga := f8 _ _ C4.ha C4.na
    have p9 : Pre m8 (m8 ++ [.lst [pD (pl arr a, pl arr b)]]) := .add
    have sd : dAdd (.ref ra) (.ref m8.length) (m8 ++ [.lst [pD (pl arr a, pl arr b)]]) = .ok (.ref (m8 ++ [Cell.lst [pD (pl arr a, pl arr b)]]).length) (m8 ++ [.lst [pD (pl arr a, pl arr b)]] ++ [.lst (arr.map pD ++ [pD (pl arr a, pl arr b)])]) :=
      w_catL (p9 _ _ ga) new_get (by rw [hz]; simp; omega)
    have h8 : h < m8.length := by
      obtain ⟨_, _, _, _, _, _, z, _⟩ := H8
      exact (List.getElem?_eq_some_iff.mp z).1
    have p10 : Pre m8 (m8 ++ [.lst [pD (pl arr a, pl arr b)]] ++ [.lst (arr.map pD ++ [pD (pl arr a, pl arr b)])]) := p9.trans .add
    have : Grown h m arr.length (.tup [.ref (m8 ++ [Cell.lst [pD (pl arr a, pl arr b)]]).length, .ref m4.length]) (m8 ++ [.lst [pD (pl arr a, pl arr b)]] ++ [.lst (arr.map pD ++ [pD (pl arr a, pl arr b)])]) := by
      refine ⟨_, _, _, rs', rfl, (f04.trans f8).trans p10.fr, H8.pre p10, ⟨?_, ?_, nl, ks', p10 _ _ g8, ?_⟩, gn, by simp⟩
      · rw [new_get]; simp
      · simp; omega
      · exact R8.fr p10.fr
    rw [v_ret]
    simp [dq, sc, sd]
    simpa using this
  have i1 : ∀ (z : Nat) m, dFdiv (I z) (.int 2) m = .ok (.int ((z : Int).fdiv 2)) m := fun z m => t3 z m
  have i2 : ∀ (z : Nat) m, dMod (I z) (.int 2) m = .ok (.int ((z : Int).fmod 2)) m := fun z m => t2 z m
  have i3 : ∀ (z : Nat) m, bInt [I z] m = .ok (I z) m := fun z m => rfl
  have i4 : ∀ (z w : Nat) m, dEq (I z) (I w) m = .ok (.bl (decide (z = w))) m := fun z w m => by
    rw [show dEq (I z) (I w) m = _ from w_eqI]
    congr 2
    exact decide_eq_decide.mpr ⟨fun q => by omega, fun q => by omega⟩
  have x1' : dIx (.ref kf) (I v1) m2 = .ok (tI f) m2 := x1
  have x2' : ∀ m, dIx (tI f) (I v2) m = .ok (I a) m := x2
  have x3' : ∀ m, dIx (tI f) (I v3) m = .ok (I b) m := x3
  have N0 : D.int (2 * (arr.length : Int)) = I (2 * arr.length) := by simp [I]
  have N2 : ∀ m, dAdd (I (2 * arr.length)) (.int 1) m = .ok (I (2 * arr.length + 1)) m := fun m => by
    show R.ok (D.int (((2 * arr.length : Nat) : Int) + 1)) m = _
    rfl
  unfold f_law_tied afOf a_law_tied
  simp [e1, lenF, e2, x1', lenT, e3, x2', e4, x3', lenA, t1, sPar2]
  refine rt_f ?_
  rw [w_for, w_iE]
  simp
  refine forL_rt gd_nil (e2 := [some (.ref h), some (.ref ra), some (.ref rr), some (.bl true), some (.ref kf), some (tI f), some (I a), some (I b), some (.int (2 * (arr.length : Int))), some (I a), some (I b), none, none, none]) (by simp) ?_
  have hpk : pl arr a < ks.length := by omega
  have z1 : dIx (.ref m4.length) (I (pl arr a)) m5 = .ok (.ref ks[pl arr a]) m5 := v_ixL g5 (atI_nat (by rw [List.getElem?_map, List.getElem?_eq_getElem hpk]; rfl))
  have R5 : RowsH h m5 ks rs := R4.fr p5.fr
  have hk := R5.2 _ _ _ (List.getElem?_eq_getElem hpk) hr
  by_cases hab : a = b
  · have z2 := ok_ex (w_put (x := 2 * arr.length + 1) hk.1 har (by omega))
    obtain ⟨_, m6, e6, k6, rfl, p6, l6, g6⟩ := z2
    have har6 : a ∈ Ch.put r a (2 * arr.length + 1) := put_mem.mpr (.inr har)
    have hlr6 : (Ch.put r a (2 * arr.length + 1)).length < 1000 := by rw [Ch.put_perm.length_eq]; simp; omega
    obtain ⟨_, m7, e7, k7, rfl, p7, l7, g7⟩ := ok_ex (w_put (x := 2 * arr.length) g6 har6 hlr6)
    have g57 : m7[m4.length]? = some (.lst (ks.map D.ref)) := p7 _ _ (p6 _ _ g5)
    have s7 : dSet (.ref m4.length) (I (pl arr a)) (.ref k7) m7 = .ok () (m7.set m4.length (.lst ((ks.set (pl arr a) k7).map D.ref))) := by
      rw [← ma_set]
      exact v_setL g57 (ixN_n (by simpa using hpk))
    have l5 : m4.length < m5.length := by rw [hm5]; simp
    have l56 := p6.len
    have n7 : k7 ≠ m4.length := by omega
    have f8 : Fr h m4 (m7.set m4.length (.lst ((ks.set (pl arr a) k7).map D.ref))) := fun i c e n => by
      have hi := (List.getElem?_eq_some_iff.mp e).1
      rw [List.getElem?_set_ne (by omega)]
      exact p7 _ _ (p6 _ _ (p5 _ _ e))
    have R7 : RowsH h (m7.set m4.length (.lst ((ks.set (pl arr a) k7).map D.ref))) (ks.set (pl arr a) k7) (rs.set (pl arr a) (Ch.put (Ch.put r a (2 * arr.length + 1)) a (2 * arr.length))) :=
      (R4.fr f8).set (by rw [List.getElem?_set_ne (Ne.symm n7)]; exact g7) (by omega)
    have H8 : HandOK h (m7.set m4.length (.lst ((ks.set (pl arr a) k7).map D.ref))) := by
      obtain ⟨c, cells, i, big, seed, cnt, w1, w2, w3, w4⟩ := (H4.pre p5).pre (p6.trans p7)
      obtain ⟨c', cells', i', big', seed', cnt', u1, u2, u3, u4⟩ := H4
      have hc' := (List.getElem?_eq_some_iff.mp u3).1
      have w1' := (p7 _ _ (p6 _ _ (p5 _ _ u1)))
      rw [w1] at w1'
      cases w1'
      exact ⟨c, cells, i, big, seed, cnt, by rw [List.getElem?_set_ne nl]; exact w1, w2, by rw [List.getElem?_set_ne (by omega)]; exact w3, w4⟩
    have gn := g.loop haN hr
    subst hab
    simp [sPar2, i1, i2, i3, i4, y1, y2, s5, z1, N0, N2, e6, e7, s7]
    have := fin _ _ _ f8 H8 (get_set g57) R7 gn
    rw [N0] at this
    simpa using this
  · obtain ⟨_, m6, e6, k6, rfl, p6, l6, g6⟩ := ok_ex (w_put (x := 2 * arr.length) hk.1 har (by omega))
    have l5 : m4.length < m5.length := by rw [hm5]; simp
    have n6 : k6 ≠ m4.length := by omega
    have g56 : m6[m4.length]? = some (.lst (ks.map D.ref)) := p6 _ _ g5
    obtain ⟨m7, hm7⟩ : ∃ m7, m7 = m6.set m4.length (.lst ((ks.set (pl arr a) k6).map D.ref)) := ⟨_, rfl⟩
    have s6 : dSet (.ref m4.length) (I (pl arr a)) (.ref k6) m6 = .ok () m7 := by
      rw [hm7, ← ma_set]
      exact v_setL g56 (ixN_n (by simpa using hpk))
    have g57 : m7[m4.length]? = some (.lst ((ks.set (pl arr a) k6).map D.ref)) := by rw [hm7]; exact get_set g56
    have f67 : ∀ (i : Nat) (c : Cell), m6[i]? = some c → i ≠ m4.length → m7[i]? = some c := fun i c e n => by rw [hm7, List.getElem?_set_ne (Ne.symm n)]; exact e
    have f47 : Fr h m4 m7 := fun i c e n => by
      have hi := (List.getElem?_eq_some_iff.mp e).1
      exact f67 _ _ (p6 _ _ (p5 _ _ e)) (by omega)
    have R7 : RowsH h m7 (ks.set (pl arr a) k6) (rs.set (pl arr a) (Ch.put r a (2 * arr.length))) := (R4.fr f47).set (f67 _ _ g6 n6) (by omega)
    obtain ⟨r', hr', hbr'⟩ := At.set (e := a) (x := 2 * arr.length) (g.at' b hbN) hr
    have hpk2 : pl arr b < (ks.set (pl arr a) k6).length := by simp; omega
    have hk7 := R7.2 _ _ _ (List.getElem?_eq_getElem hpk2) hr'
    have hrl' : r'.length < 1000 := by
      by_cases z : pl arr a = pl arr b
      · rw [← z, List.getElem?_set_self hp] at hr'
        cases hr'
        rw [Ch.put_perm.length_eq]; simp; omega
      · rw [List.getElem?_set_ne z] at hr'
        have := g.row (List.mem_of_getElem? hr')
        omega
    obtain ⟨_, m8, e8, k8, rfl, p8, l8, g8⟩ := ok_ex (w_put (x := 2 * arr.length + 1) hk7.1 hbr' hrl')
    have z2 : dIx (.ref m4.length) (I (pl arr b)) m7 = .ok (.ref (ks.set (pl arr a) k6)[pl arr b]) m7 := v_ixL g57 (atI_nat (by rw [List.getElem?_map, List.getElem?_eq_getElem hpk2]; rfl))
    have g58 : m8[m4.length]? = some (.lst ((ks.set (pl arr a) k6).map D.ref)) := p8 _ _ g57
    have l56 := p6.len
    have l67 : m7.length = m6.length := by rw [hm7]; simp
    have n8 : k8 ≠ m4.length := by omega
    obtain ⟨m9, hm9⟩ : ∃ m9, m9 = m8.set m4.length (.lst (((ks.set (pl arr a) k6).set (pl arr b) k8).map D.ref)) := ⟨_, rfl⟩
    have s9 : dSet (.ref m4.length) (I (pl arr b)) (.ref k8) m8 = .ok () m9 := by
      rw [hm9, ← ma_set]
      exact v_setL g58 (ixN_n (by simpa using hpk2))
    have f49 : Fr h m4 m9 := fun i c e n => by
      have hi := (List.getElem?_eq_some_iff.mp e).1
      rw [hm9, List.getElem?_set_ne (by omega)]
      exact p8 _ _ (f47 _ _ e n)
    have f79 : ∀ (i : Nat) (c : Cell), m7[i]? = some c → i ≠ m4.length → m9[i]? = some c := fun i c e n => by rw [hm9, List.getElem?_set_ne (Ne.symm n)]; exact p8 _ _ e
    have g69 : m9[k6]? = some (.lst ((Ch.put r a (2 * arr.length)).map I)) := f79 _ _ (f67 _ _ g6 n6) n6
    have R9 : RowsH h m9 ((ks.set (pl arr a) k6).set (pl arr b) k8) ((rs.set (pl arr a) (Ch.put r a (2 * arr.length))).set (pl arr b) (Ch.put r' b (2 * arr.length + 1))) :=
      RowsH.set (RowsH.set (R4.fr f49) g69 (by omega)) (by rw [hm9, List.getElem?_set_ne (Ne.symm n8)]; exact g8) (by omega)
    have H9 : HandOK h m9 := by
      obtain ⟨c, cells, i, big, seed, cnt, u1, u2, u3, u4⟩ := H4
      have hc' := (List.getElem?_eq_some_iff.mp u3).1
      have v1 : m9[h]? = some (.lst [.ref c, .int i, .int big, .int seed, .int cnt]) := by
        rw [hm9, List.getElem?_set_ne nl]
        refine p8 _ _ ?_
        rw [hm7, List.getElem?_set_ne nl]
        exact p6 _ _ (p5 _ _ u1)
      exact ⟨c, cells, i, big, seed, cnt, v1, u2, f49 _ _ u3 u2, u4⟩
    have gn := g.tie haN hbN hab F hF ⟨q, hq, haq, hbq⟩ hr hr'
    have fin2 := fin _ _ _ f49 H9 (by rw [hm9]; exact get_set g58) R9 gn
    rw [N0] at fin2
    simp [sPar2, i1, i2, i3, i4, y1, y2, y3, y4, s5, z1, z2, N0, N2, e6, e8, s6, s9, hab]
    simpa using fin2
end Cl
set_option Elab.async false
set_option linter.all false
set_option maxRecDepth 100000
namespace Cl
open PySem PySem.Spec PyProof.Rows L2 Ab
theorem conn2 : Conn [(0, 1)] 2 := fun S h0 hS x hx => by
  have := hS (0, 1) (by simp)
  have h1 : S 1 := this.mp h0
  match x, hx with
  | 0, _ => exact h0
  | 1, _ => exact h1
theorem g0 : G [(0, 1)] [[0], [1]] := by
  refine ⟨⟨[[0, 1]], ⟨rfl, by decide, by decide, by decide, by decide, ?_⟩, rfl⟩, by decide, ?_, conn2⟩
  · intro r hr x y h
    simp at hr; subst hr
    simp [Ch.cy, Ch.pp] at h
    rcases h with ⟨rfl, rfl⟩ | ⟨rfl, rfl⟩
    · exact ⟨[1], by simp, by decide⟩
    · exact ⟨[0], by simp, by decide⟩
  · intro e he
    match e, he with
    | 0, _ => exact ⟨[0], rfl, by simp⟩
    | 1, _ => exact ⟨[1], rfl, by simp⟩
theorem g1 : G [(1, 0)] [[1], [0]] := by
  refine ⟨⟨[[0, 1]], ⟨rfl, by decide, by decide, by decide, by decide, ?_⟩, rfl⟩, by decide, ?_, ?_⟩
  · intro r hr x y h
    simp at hr; subst hr
    simp [Ch.cy, Ch.pp] at h
    rcases h with ⟨rfl, rfl⟩ | ⟨rfl, rfl⟩
    · exact ⟨[1], by simp, by decide⟩
    · exact ⟨[0], by simp, by decide⟩
  · intro e he
    match e, he with
    | 0, _ => exact ⟨[0], rfl, by simp⟩
    | 1, _ => exact ⟨[1], rfl, by simp⟩
  · intro S h0 hS x hx
    have := hS (1, 0) (by simp)
    have h1 : S 1 := this.mpr h0
    match x, hx with
    | 0, _ => exact h0
    | 1, _ => exact h1
theorem g2 : G [(0, 0)] [[0, 1]] := by
  refine ⟨⟨[[0], [1]], ⟨rfl, by decide, by decide, by decide, by decide, ?_⟩, rfl⟩, by decide, ?_, ?_⟩
  · intro r hr x y h
    simp at hr
    rcases hr with rfl | rfl
    · simp [Ch.cy, Ch.pp] at h
      obtain ⟨rfl, rfl⟩ := h
      exact ⟨[0, 1], by simp, by decide⟩
    · simp [Ch.cy, Ch.pp] at h
      obtain ⟨rfl, rfl⟩ := h
      exact ⟨[0, 1], by simp, by decide⟩
  · intro e he
    match e, he with
    | 0, _ => exact ⟨[0, 1], rfl, by simp⟩
    | 1, _ => exact ⟨[0, 1], rfl, by simp⟩
  · intro S h0 hS x hx
    match x, hx with
    | 0, _ => exact h0
/-- a chart that lies in the heap, whole, with at most so many arrows -/
def Held (h : Nat) (n : Nat) (d : D) (m : Mem) : Prop := ∃ ra rr arr rs, d = .tup [.ref ra, .ref rr] ∧ HandOK h m ∧ ChM h m ra rr arr rs ∧ G arr rs ∧ arr.length ≤ n
theorem mkL1 {a : D} {m : Mem} : mkLst [a] m = .ok (.ref m.length) (m ++ [.lst [a]]) := if_pos (by rw [show sizeLine = 2 ^ 24 from rfl]; simp)
theorem mkL2 {a b : D} {m : Mem} : mkLst [a, b] m = .ok (.ref m.length) (m ++ [.lst [a, b]]) := if_pos (by rw [show sizeLine = 2 ^ 24 from rfl]; simp)
theorem mkL3 {a b c : D} {m : Mem} : mkLst [a, b, c] m = .ok (.ref m.length) (m ++ [.lst [a, b, c]]) := if_pos (by rw [show sizeLine = 2 ^ 24 from rfl]; simp)
theorem mkL4 {a b c d : D} {m : Mem} : mkLst [a, b, c, d] m = .ok (.ref m.length) (m ++ [.lst [a, b, c, d]]) := if_pos (by rw [show sizeLine = 2 ^ 24 from rfl]; simp)
noncomputable def wStart : AE := eOp dIx (eCall mkLst (aCons (eCall mkTup (aCons (eCall mkLst (aCons (eCall mkTup (aCons (eC (.int 0)) (aCons (eC (.int 1)) (aNil)))) (aNil))) (aCons (eCall mkLst (aCons (eCall mkLst (aCons (eC (.int 0)) (aNil))) (aCons (eCall mkLst (aCons (eC (.int 1)) (aNil))) (aNil)))) (aNil)))) (aCons (eCall mkTup (aCons (eCall mkLst (aCons (eCall mkTup (aCons (eC (.int 1)) (aCons (eC (.int 0)) (aNil)))) (aNil))) (aCons (eCall mkLst (aCons (eCall mkLst (aCons (eC (.int 1)) (aNil))) (aCons (eCall mkLst (aCons (eC (.int 0)) (aNil))) (aNil)))) (aNil)))) (aCons (eCall mkTup (aCons (eCall mkLst (aCons (eCall mkTup (aCons (eC (.int 0)) (aCons (eC (.int 0)) (aNil)))) (aNil))) (aCons (eCall mkLst (aCons (eCall mkLst (aCons (eC (.int 0)) (aCons (eC (.int 1)) (aNil)))) (aNil))) (aNil)))) (aNil))))) (eCall f_law_draw (aCons (eVar 0) (aCons (eC (.int 3)) (aNil))))
theorem w_start {h : Nat} {m : Mem} {e : Env'} (H : HandOK h m) : Ok (wStart (some (.ref h) :: e) m) fun d m' => Fr h m m' ∧ Held h 1 d m' := by
  obtain ⟨L, hL⟩ : ∃ L : List Cell, L = [.lst [pD (0, 1)], .lst [I 0], .lst [I 1], .lst [.ref (m.length + 1), .ref (m.length + 2)], .lst [pD (1, 0)], .lst [I 1], .lst [I 0], .lst [.ref (m.length + 5), .ref (m.length + 6)], .lst [pD (0, 0)], .lst [I 0, I 1], .lst [.ref (m.length + 9)],
      .lst [.tup [.ref m.length, .ref (m.length + 3)], .tup [.ref (m.length + 4), .ref (m.length + 7)], .tup [.ref (m.length + 8), .ref (m.length + 10)]]] := ⟨_, rfl⟩
  have p : Pre m (m ++ L) := .add
  obtain ⟨_, m2, e1, v, rfl, hv, f2, H2⟩ := ok_ex (w_draw (H.pre p) (many := 3) (by decide) (by decide))
  have hh : h < m.length := by
    obtain ⟨_, _, _, _, _, _, z, _⟩ := H
    exact (List.getElem?_eq_some_iff.mp z).1
  have at' : ∀ (i : Nat) (c : Cell), L[i]? = some c → m2[m.length + i]? = some c := fun i c z => f2 _ _ (by rw [List.getElem?_append_right (by omega)]; simpa using z) (by omega)
  have e1' : f_law_draw [.ref h, .int 3] (m ++ L) = .ok (I v) m2 := e1
  have i0 : D.int 0 = I 0 := rfl
  have i1 : D.int 1 = I 1 := rfl
  have c0 : D.tup [I 0, I 1] = pD (0, 1) := rfl
  have c1 : D.tup [I 1, I 0] = pD (1, 0) := rfl
  have c2 : D.tup [I 0, I 0] = pD (0, 0) := rfl
  have g11 := at' 11 _ (by rw [hL]; rfl)
  rw [hL] at e1'
  simp [wStart, mkL1, mkL2, mkL3, i0, i1, c0, c1, c2, e1']
  have cell : ∀ {a b c d : Nat}, True := fun {a b c d} => trivial
  have n0 : ∀ j : Nat, m.length + j ≠ h := fun j => by omega
  have held : ∀ (ra rr : Nat) (arr : List (Nat × Nat)) (rs : List (List Nat)) (ks : List Nat), m2[ra]? = some (.lst (arr.map pD)) → ra ≠ h → m2[rr]? = some (.lst (ks.map D.ref)) → rr ≠ h → RowsH h m2 ks rs → G arr rs → arr.length ≤ 1 → Fr h m m2 ∧ Held h 1 (.tup [.ref ra, .ref rr]) m2 :=
    fun ra rr arr rs ks a1 a2 a3 a4 a5 a6 a7 => ⟨p.fr.trans f2, ra, rr, arr, rs, rfl, H2, ⟨a1, a2, a4, ks, a3, a5.1, a5.2⟩, a6, a7⟩
  have r2 : ∀ {k1 k2 : Nat} {a b : List Nat}, m2[k1]? = some (.lst (a.map I)) → m2[k2]? = some (.lst (b.map I)) → k1 ≠ h → k2 ≠ h → RowsH h m2 [k1, k2] [a, b] := by
    intro k1 k2 a b b1 b2 b3 b4
    refine ⟨rfl, fun i k r e1 e2 => ?_⟩
    match i, e1, e2 with
    | 0, e1, e2 => cases e1; cases e2; exact ⟨b1, b3⟩
    | 1, e1, e2 => cases e1; cases e2; exact ⟨b2, b4⟩
    | i + 2, e1, e2 => simp at e1
  have r1 : ∀ {k1 : Nat} {a : List Nat}, m2[k1]? = some (.lst (a.map I)) → k1 ≠ h → RowsH h m2 [k1] [a] := by
    intro k1 a b1 b3
    refine ⟨rfl, fun i k r e1 e2 => ?_⟩
    match i, e1, e2 with
    | 0, e1, e2 => cases e1; cases e2; exact ⟨b1, b3⟩
    | i + 1, e1, e2 => simp at e1
  match v, hv with
  | 0, _ =>
    rw [show dIx (.ref (m.length + 11)) (I 0) m2 = _ from v_ixL g11 (atI_nat rfl)]
    exact held _ _ [(0, 1)] [[0], [1]] [m.length + 1, m.length + 2] (at' 0 _ (by rw [hL]; rfl)) (n0 0) (at' 3 _ (by rw [hL]; rfl)) (n0 3) (r2 (at' 1 _ (by rw [hL]; rfl)) (at' 2 _ (by rw [hL]; rfl)) (n0 1) (n0 2)) g0 (by simp)
  | 1, _ =>
    rw [show dIx (.ref (m.length + 11)) (I 1) m2 = _ from v_ixL g11 (atI_nat rfl)]
    exact held _ _ [(1, 0)] [[1], [0]] [m.length + 5, m.length + 6] (at' 4 _ (by rw [hL]; rfl)) (n0 4) (at' 7 _ (by rw [hL]; rfl)) (n0 7) (r2 (at' 5 _ (by rw [hL]; rfl)) (at' 6 _ (by rw [hL]; rfl)) (n0 5) (n0 6)) g1 (by simp)
  | 2, _ =>
    rw [show dIx (.ref (m.length + 11)) (I 2) m2 = _ from v_ixL g11 (atI_nat rfl)]
    exact held _ _ [(0, 0)] [[0, 1]] [m.length + 9] (at' 8 _ (by rw [hL]; rfl)) (n0 8) (at' 10 _ (by rw [hL]; rfl)) (n0 10) (r1 (at' 9 _ (by rw [hL]; rfl)) (n0 9)) g2 (by simp)
/-- one step of growing -/
noncomputable def wGrow : AS := sSeq (sAsg (eOp dIx (eCall mkLst (aCons (eC (.fn "_law_hung")) (aCons (eC (.fn "_law_tied")) (aCons (eC (.fn "_law_tied")) (aNil))))) (eCall f_law_draw (aCons (eVar 0) (aCons (eC (.int 3)) (aNil))))) (gN 6))
    (sAsg (eCallV dp_law_chart (eVar 6) (aCons (eVar 0) (aCons (eVar 3) (aCons (eVar 4) (aCons (eVar 2) (aNil)))))) (gT 2 (gsCons (gN 3) (gsCons (gN 4) (gsNil)))))
theorem dp_hung : dp_law_chart "_law_hung" = some (4, f_law_hung) := by unfold dp_law_chart; rw [if_pos rfl]
theorem dp_tied : dp_law_chart "_law_tied" = some (4, f_law_tied) := by unfold dp_law_chart; rw [if_neg (by decide), if_pos rfl]
theorem w_callV {disp : Str → Option (Nat × AF)} {f : AE} {aa : AA} {e : Env'} {m m1 m2 : Mem} {x : Str} {n : Nat} {af : AF} {ds : List D} (h1 : f e m = .ok (.fn x) m1) (h2 : disp x = some (n, af)) (h3 : aa e m1 = .ok ds m2) (h4 : ds.length = n) : eCallV disp f aa e m = af ds m2 := by
  unfold eCallV
  rw [h1, v_bind]
  simp only [h2]
  rw [h3, v_bind, if_pos h4]
theorem w_grow {h : Nat} {m : Mem} {ra rr n : Nat} {arr : List (Nat × Nat)} {rs : List (List Nat)} {x1 x5 x6 : Option D} {tl : Env'} (H : HandOK h m) (C : ChM h m ra rr arr rs) (g : G arr rs) (hb : arr.length ≤ n) (hn : n < 100) :
    Nx (wGrow (some (.ref h) :: x1 :: some (.bl true) :: some (.ref ra) :: some (.ref rr) :: x5 :: x6 :: tl) m) fun e' m' => Fr h m m' ∧ HandOK h m' ∧ ∃ ra' rr' arr' rs' y6, e' = some (.ref h) :: x1 :: some (.bl true) :: some (.ref ra') :: some (.ref rr') :: x5 :: y6 :: tl ∧ ChM h m' ra' rr' arr' rs' ∧ G arr' rs' ∧ arr'.length ≤ n + 1 := by
  obtain ⟨m1, hm1⟩ : ∃ m1, m1 = m ++ [Cell.lst [.fn "_law_hung", .fn "_law_tied", .fn "_law_tied"]] := ⟨_, rfl⟩
  have p1 : Pre m m1 := by rw [hm1]; exact .add
  have hh : h < m.length := by
    obtain ⟨_, _, _, _, _, _, z, _⟩ := H
    exact (List.getElem?_eq_some_iff.mp z).1
  have q1 : m1[m.length]? = some (.lst [.fn "_law_hung", .fn "_law_tied", .fn "_law_tied"]) := by rw [hm1]; exact new_get
  obtain ⟨_, m2, e1, v, rfl, hv, f2, H2⟩ := ok_ex (w_draw (H.pre p1) (many := 3) (by decide) (by decide))
  have q2 := f2 _ _ q1 (by omega)
  have f02 := p1.fr.trans f2
  have C2 := C.fr f02
  have step : ∀ (x : Str) (af : AF), dp_law_chart x = some (4, af) → dIx (.ref m.length) (I v) m2 = .ok (.fn x) m2 → Ok (af [.ref h, .ref ra, .ref rr, .bl true] m2) (Grown h m2 arr.length) → Nx (wGrow (some (.ref h) :: x1 :: some (.bl true) :: some (.ref ra) :: some (.ref rr) :: x5 :: x6 :: tl) m) fun e' m' => Fr h m m' ∧ HandOK h m' ∧ ∃ ra' rr' arr' rs' y6, e' = some (.ref h) :: x1 :: some (.bl true) :: some (.ref ra') :: some (.ref rr') :: x5 :: y6 :: tl ∧ ChM h m' ra' rr' arr' rs' ∧ G arr' rs' ∧ arr'.length ≤ n + 1 := by
    intro x af hx hi hok
    have s1 : sAsg (eOp dIx (eCall mkLst (aCons (eC (.fn "_law_hung")) (aCons (eC (.fn "_law_tied")) (aCons (eC (.fn "_law_tied")) (aNil))))) (eCall f_law_draw (aCons (eVar 0) (aCons (eC (.int 3)) (aNil))))) (gN 6) (some (.ref h) :: x1 :: some (.bl true) :: some (.ref ra) :: some (.ref rr) :: x5 :: x6 :: tl) m = .nx (some (.ref h) :: x1 :: some (.bl true) :: some (.ref ra) :: some (.ref rr) :: x5 :: some (.fn x) :: tl) m2 := by
      simp [mkL3, ← hm1, e1, hi]
    unfold wGrow
    rw [v_seq, s1, v_nx, v_asg]
    rw [w_callV (x := x) (m1 := m2) (m2 := m2) (ds := [.ref h, .ref ra, .ref rr, .bl true]) rfl hx rfl rfl]
    refine nx_o (ok_mono hok ?_)
    rintro d m3 ⟨ra', rr', arr', rs', rfl, f3, H3, C3, g3, l3⟩
    simp
    exact ⟨f02.trans f3, H3, ra', rr', ⟨rfl, rfl⟩, arr', rs', C3, g3, by omega⟩
  match v, hv with
  | 0, _ => exact step _ _ dp_hung (v_ixL q2 (atI_nat rfl)) (w_hung H2 C2 g (by omega))
  | 1, _ => exact step _ _ dp_tied (v_ixL q2 (atI_nat rfl)) (w_tied H2 C2 g (by omega))
  | 2, _ => exact step _ _ dp_tied (v_ixL q2 (atI_nat rfl)) (w_tied H2 C2 g (by omega))
end Cl
set_option Elab.async false
set_option linter.all false
set_option maxRecDepth 100000
namespace Cl
open PySem PySem.Spec PyProof.Rows L2 Ab
theorem lcL_map {tg : AG} {el : AE} {gd : Gd} {env : Env'} {p0 : Nat} {m0 : Mem} (hg : ∀ m', Kp [p0] m0 m' → gd.Ok m') :
    ∀ (ds outs : List D) (m : Mem) (acc : List D), Kp [p0] m0 m → ds.length = outs.length → (∀ (i : Nat) (d x : D), ds[i]? = some d → outs[i]? = some x → ∀ m', Kp [p0] m0 m' → ∃ e2, tg d env m' = .ok e2 m' ∧ el e2 m' = .ok x m') → m[p0]? = some (.lst acc) → acc.length + ds.length < 2 ^ 24 →
      Ok (lcL tg tYesA el gd env p0 ds m) fun _ m' => Kp [p0] m0 m' ∧ m'[p0]? = some (.lst (acc ++ outs))
  | [], [], m, acc, hk, _, _, hm, _ => by
    unfold lcL
    rw [if_pos (hg m hk)]
    exact ⟨hk, by simpa using hm⟩
  | d :: r, [], m, acc, hk, hl, _, _, _ => by simp at hl
  | [], x :: o, m, acc, hk, hl, _, _, _ => by simp at hl
  | d :: r, x :: o, m, acc, hk, hl, hs, hm, hz => by
    obtain ⟨e2, h1, h2⟩ := hs 0 d x rfl rfl m hk
    unfold lcL
    rw [if_pos (hg m hk), h1]
    dsimp only [tYesA]
    rw [if_pos rfl, h2]
    dsimp only
    rw [hm]
    dsimp only
    rw [if_pos (by show acc.length < 2 ^ 24; simp at hz; omega)]
    have := lcL_map hg r o (m.set p0 (.lst (acc ++ [x]))) (acc ++ [x]) (hk.trans (Kp.set (by simp))) (by simpa using hl) (fun i d' x' a b => hs (i + 1) d' x' a b) (get_set hm) (by simp at hz ⊢; omega)
    simpa using this
def PriceOK (p : D) : Prop := p = .non ∨ ∃ i : Int, p = .int i ∧ 1 ≤ i ∧ i ≤ 1000
noncomputable def wPrice : AS := sSeq (sAsg (eOp dIx (eCall mkLst (aCons (eC (.int 1)) (aCons (eOp dAdd (eC (.int 1)) (eCall f_law_draw (aCons (eVar 0) (aCons (eC (.int 5)) (aNil))))) (aCons (eOp dAdd (eC (.int 1)) (eCall f_law_draw (aCons (eVar 0) (aCons (eC (.int 1000)) (aNil))))) (aCons (eOp dAdd (eC (.int 1)) (eCall f_law_draw (aCons (eVar 0) (aCons (eC (.int 2)) (aNil))))) (aNil)))))) (eVar 7)) (gN 10))
    (sExp (eMt isL mAppend (eVar 8) (aCons (eIf (tVal (eOp dEq (eCall f_law_draw (aCons (eVar 0) (aCons (eC (.int 9)) (aNil)))) (eC (.int 0)))) (eC .non) (eVar 10)) (aNil))))
theorem HandC.pre {h k : Nat} {m m' : Mem} (H : HandC h k m) (a : Pre m m') : HandC h k m' := by
  obtain ⟨cells, i, big, seed, cnt, h1, h2, h3, h4⟩ := H
  exact ⟨cells, i, big, seed, cnt, a _ _ h1, h2, a _ _ h3, h4⟩
theorem HandC.set {h k p : Nat} {m : Mem} {z : Cell} (H : HandC h k m) (n1 : p ≠ h) (n2 : p ≠ k) : HandC h k (m.set p z) := by
  obtain ⟨cells, i, big, seed, cnt, h1, h2, h3, h4⟩ := H
  exact ⟨cells, i, big, seed, cnt, by rw [List.getElem?_set_ne n1]; exact h1, h2, by rw [List.getElem?_set_ne n2]; exact h3, h4⟩
theorem HandC.lt {h k : Nat} {m : Mem} (H : HandC h k m) : h < m.length ∧ k < m.length := by
  obtain ⟨cells, i, big, seed, cnt, h1, h2, h3, h4⟩ := H
  exact ⟨(List.getElem?_eq_some_iff.mp h1).1, (List.getElem?_eq_some_iff.mp h3).1⟩
theorem w_price {h c kp kind : Nat} {m : Mem} {ps : List D} {x1 x2 x3 x4 x5 x6 x9 x10 x11 x12 : Option D} (H : HandC h c m) (hk : kind < 4) (hp : m[kp]? = some (.lst ps)) (n1 : kp ≠ h) (n2 : kp ≠ c) (hl : ps.length < 1000) :
    Nx (wPrice [some (.ref h), x1, x2, x3, x4, x5, x6, some (I kind), some (.ref kp), x9, x10, x11, x12] m) fun e' m' => (∃ y10, e' = [some (.ref h), x1, x2, x3, x4, x5, x6, some (I kind), some (.ref kp), x9, y10, x11, x12]) ∧ Kp [h, kp] m m' ∧ HandC h c m' ∧ ∃ p, PriceOK p ∧ m'[kp]? = some (.lst (ps ++ [p])) := by
  obtain ⟨_, m1, e1, v1, rfl, h1, f1, H1⟩ := ok_ex (w_drawC H (many := 5) (by decide) (by decide))
  obtain ⟨_, m2, e2, v2, rfl, h2, f2, H2⟩ := ok_ex (w_drawC H1 (many := 1000) (by decide) (by decide))
  obtain ⟨_, m3, e3, v3, rfl, h3, f3, H3⟩ := ok_ex (w_drawC H2 (many := 2) (by decide) (by decide))
  have ad : ∀ (v : Nat) m, dAdd (.int 1) (I v) m = .ok (.int (1 + (v : Int))) m := fun v m => rfl
  obtain ⟨m4, hm4⟩ : ∃ m4, m4 = m3 ++ [Cell.lst [.int 1, .int (1 + (v1 : Int)), .int (1 + (v2 : Int)), .int (1 + (v3 : Int))]] := ⟨_, rfl⟩
  have p4 : Pre m3 m4 := by rw [hm4]; exact .add
  have q4 : m4[m3.length]? = some (.lst [.int 1, .int (1 + (v1 : Int)), .int (1 + (v2 : Int)), .int (1 + (v3 : Int))]) := by rw [hm4]; exact new_get
  obtain ⟨z, hz, hz1, hz2⟩ : ∃ z : Int, dIx (.ref m3.length) (I kind) m4 = .ok (.int z) m4 ∧ 1 ≤ z ∧ z ≤ 1000 := by
    match kind, hk with
    | 0, _ => exact ⟨1, v_ixL q4 (atI_nat rfl), by omega, by omega⟩
    | 1, _ => exact ⟨_, v_ixL q4 (atI_nat rfl), by omega, by omega⟩
    | 2, _ => exact ⟨_, v_ixL q4 (atI_nat rfl), by omega, by omega⟩
    | 3, _ => exact ⟨_, v_ixL q4 (atI_nat rfl), by omega, by omega⟩
  have H4 := H3.pre p4
  obtain ⟨_, m5, e5, v5, rfl, h5, f5, H5⟩ := ok_ex (w_drawC H4 (many := 9) (by decide) (by decide))
  have F4 : Fr h m m4 := ((f1.trans f2).trans f3).trans p4.fr
  have F5 : Fr h m m5 := F4.trans f5
  have g4 := F4 _ _ hp n1
  have g5 := F5 _ _ hp n1
  have ie : dEq (I v5) (.int 0) m5 = .ok (.bl (decide (((v5 : Nat) : Int) = 0))) m5 := w_eqI
  have fin : ∀ p, PriceOK p → Kp [h, kp] m (m5.set kp (.lst (ps ++ [p]))) ∧ HandC h c (m5.set kp (.lst (ps ++ [p]))) ∧ ∃ p', PriceOK p' ∧ (m5.set kp (.lst (ps ++ [p])))[kp]? = some (.lst (ps ++ [p'])) := fun p hpo => by
    refine ⟨fun i cc e n => ?_, H5.set n1 n2, p, hpo, get_set g5⟩
    simp at n
    rw [List.getElem?_set_ne (Ne.symm n.2)]
    exact F5 _ _ e n.1
  by_cases hv : ((v5 : Nat) : Int) = 0
  · have sa : mAppend (.ref kp) [.non] m5 = .ok .non (m5.set kp (.lst (ps ++ [.non]))) := v_append g5 (by omega)
    simp [wPrice, e1, e2, e3, ad, mkL4, ← hm4, hz, w_mt, w_isL g4, e5, ie, hv, sa]
    exact fin _ (.inl rfl)
  · have sa : mAppend (.ref kp) [.int z] m5 = .ok .non (m5.set kp (.lst (ps ++ [.int z]))) := v_append g5 (by omega)
    have hv' : ¬ v5 = 0 := by omega
    simp [wPrice, e1, e2, e3, ad, mkL4, ← hm4, hz, w_mt, w_isL g4, e5, ie, hv, hv', sa]
    exact fin _ (.inr ⟨z, rfl, hz1, hz2⟩)
end Cl
set_option Elab.async false
set_option linter.all false
set_option maxRecDepth 100000
namespace Cl
open PySem PySem.Spec PyProof.Rows L2 Ab
/-- the parts of a chart, as the law draws them -/
structure Drawn' (d : D) (n : Nat) (arr : List (Nat × Nat)) (rs : List (List Nat)) (outer : Nat) (ps : List D) : Prop where
  eq : d = .tup [I rs.length, .tup (arr.map pD), .tup (rs.map tI), I outer, .tup ps]
  g : G arr rs
  most : arr.length ≤ n
  out : outer < 2 * arr.length
  len : ps.length = arr.length
  pr : ∀ p ∈ ps, PriceOK p
theorem w_rng1 {aa : AA} {e : Env'} {m m' : Mem} {v : Nat} (h : aa e m = .ok [I v] m') (hv : v < 1000) : iA rng1 aa e m = .ok ((List.range v).map fun (i : Nat) => .int (i : Int), []) m' := by
  rw [w_iA, h, v_bind]
  exact v_rng hv
theorem w_chart {h most : Nat} {m : Mem} (H : HandOK h m) (hm : 0 < most) (hm2 : most < 40) : Ok (f_law_chart [.ref h, I most, .bl true] m) fun d m' => Fr h m m' ∧ HandOK h m' ∧ ∃ arr rs outer ps, Drawn' d most arr rs outer ps := by
  have hz : sizeLine = 2 ^ 24 := rfl
  unfold f_law_chart afOf a_law_chart
  rw [v_seq]
  refine seq_f ?_
  show Nx (sAsg wStart (gT 2 (gsCons (gN 3) (gsCons (gN 4) gsNil))) [some (.ref h), some (I most), some (.bl true), none, none, none, none, none, none, none, none, none, none] m) _
  rw [v_asg]
  refine nx_o (ok_mono (w_start H) ?_)
  rintro d m1 ⟨f1, ra, rr, arr, rs, rfl, H1, C1, g1, l1⟩
  have s1 : gT 2 (gsCons (gN 3) (gsCons (gN 4) gsNil)) (.tup [.ref ra, .ref rr]) [some (.ref h), some (I most), some (.bl true), none, none, none, none, none, none, none, none, none, none] m1 = .ok [some (.ref h), some (I most), some (.bl true), some (.ref ra), some (.ref rr), none, none, none, none, none, none, none, none] m1 := rfl
  rw [s1, v_o, nx_nx, v_seq]
  refine seq_f ?_
  obtain ⟨_, m2, e2, v, rfl, hv, f2, H2⟩ := ok_ex (w_draw H1 (many := (most : Int)) (by omega) (by omega))
  have e2' : (aCons (eCall f_law_draw (aCons (eVar 0) (aCons (eVar 1) aNil))) aNil) [some (.ref h), some (I most), some (.bl true), some (.ref ra), some (.ref rr), none, none, none, none, none, none, none, none] m1 = .ok [I v] m2 := by
    rw [v_cons, v_call, v_cons, v_v0 (z := none), v_bind, v_cons, v_vs, v_v0 (z := none), v_bind, v_nil, v_bind, v_bind, v_bind, show f_law_draw [.ref h, I most] m1 = _ from e2, v_bind]
    rfl
  rw [w_for, w_rng1 e2' (by omega), v_o]
  have C2 := C1.fr f2
  -- growing
  let Inv : List D → Env' → Mem → Prop := fun rest e' m' => ∃ (i : Nat) (ra rr : Nat) (arr : List (Nat × Nat)) (rs : List (List Nat)) (y5 y6 : Option D), rest.length + i = v ∧ e' = [some (.ref h), some (I most), some (.bl true), some (.ref ra), some (.ref rr), y5, y6, none, none, none, none, none, none] ∧ Fr h m2 m' ∧ HandOK h m' ∧ ChM h m' ra rr arr rs ∧ G arr rs ∧ arr.length ≤ i + 1
  refine nx_mono (forL_go (b := wGrow) Inv ?_ (fun _ _ _ => gd_nil) _ _ _ ⟨0, ra, rr, arr, rs, none, none, by simp, rfl, .refl, H2, C2, g1, l1⟩) ?_
  · rintro d rest e1 m3 ⟨i, ra, rr, arr, rs, y5, y6, h1, rfl, h3, h4, h5, h6, h7⟩
    refine ⟨gd_nil, _, rfl, ?_⟩
    refine nx_mono (w_grow (n := i + 1) h4 h5 h6 h7 (by simp at h1; omega)) ?_
    rintro e' m' ⟨k1, k2, ra', rr', arr', rs', z6, rfl, k3, k4, k5⟩
    exact ⟨i + 1, ra', rr', arr', rs', _, z6, by simp at h1; omega, rfl, h3.trans k1, k2, k3, k4, k5⟩
  · rintro e' m3 ⟨i, ra, rr, arr, rs, y5, y6, h1, rfl, h3, h4, h5, h6, h7⟩
    simp at h1
    have hn : arr.length ≤ most := by omega
    obtain ⟨_, m4, e4, kind, rfl, hk, f4, H4⟩ := ok_ex (w_draw h4 (many := 4) (by decide) (by decide))
    obtain ⟨m5, hm5⟩ : ∃ m5, m5 = m4 ++ [Cell.lst []] := ⟨_, rfl⟩
    have p5 : Pre m4 m5 := by rw [hm5]; exact .add
    have q5 : m5[m4.length]? = some (.lst []) := by rw [hm5]; exact new_get
    obtain ⟨c, H4c⟩ := H4.ex
    have hlt := H4c.lt
    have H5 := H4c.pre p5
    have C5 := (h5.fr f4).fr p5.fr
    have s4 : sAsg (eCall f_law_draw (aCons (eVar 0) (aCons (eC (.int 4)) (aNil)))) (gN 7) [some (.ref h), some (I most), some (.bl true), some (.ref ra), some (.ref rr), y5, y6, none, none, none, none, none, none] m3 = .nx [some (.ref h), some (I most), some (.bl true), some (.ref ra), some (.ref rr), y5, y6, some (I kind), none, none, none, none, none] m4 := by
      rw [v_asg, v_call, v_cons, v_v0 (z := none), v_bind, v_cons, v_c, v_bind, v_nil, v_bind, v_bind, v_bind, e4, v_o, v_gN, v_o]; rfl
    have s5 : sAsg (eCall mkLst aNil) (gN 8) [some (.ref h), some (I most), some (.bl true), some (.ref ra), some (.ref rr), y5, y6, some (I kind), none, none, none, none, none] m4 = .nx [some (.ref h), some (I most), some (.bl true), some (.ref ra), some (.ref rr), y5, y6, some (I kind), some (.ref m4.length), none, none, none, none] m5 := by
      rw [v_asg, v_call, v_nil, v_bind, mk0, v_o, v_gN, v_o, hm5]; rfl
    rw [v_seq, s4, v_nx, v_seq, s5, v_nx, v_seq]
    refine seq_f ?_
    have hra : ∀ m', Kp [h, m4.length] m5 m' → m'[ra]? = some (.lst (arr.map pD)) := fun m' a => a _ _ C5.ha (by
      have := (List.getElem?_eq_some_iff.mp (h5.fr f4).ha).1
      have := C5.na
      simp
      omega)
    have e6 : (eVar 3 [some (.ref h), some (I most), some (.bl true), some (.ref ra), some (.ref rr), y5, y6, some (I kind), some (.ref m4.length), none, none, none, none] m5).bind itD = .ok (arr.map pD, [(ra, .lst (arr.map pD))]) m5 := by
      show itD (.ref ra) m5 = _
      unfold itD
      simp only [C5.ha]
    rw [w_for, w_iE, e6, v_o]
    let Inv2 : List D → Env' → Mem → Prop := fun rest e' m' => ∃ (ps : List D) (y9 y10 : Option D), rest.length + ps.length = arr.length ∧ e' = [some (.ref h), some (I most), some (.bl true), some (.ref ra), some (.ref rr), y5, y6, some (I kind), some (.ref m4.length), y9, y10, none, none] ∧ Kp [h, m4.length] m5 m' ∧ HandC h c m' ∧ m'[m4.length]? = some (.lst ps) ∧ ∀ p ∈ ps, PriceOK p
    have gd : ∀ m', Kp [h, m4.length] m5 m' → Gd.Ok [(ra, .lst (arr.map pD))] m' := fun m' a p hp => by
      rw [List.mem_singleton.mp hp]; exact hra m' a
    refine nx_mono (forL_go (b := wPrice) Inv2 ?_ ?_ _ _ _ ⟨[], none, none, by simp, rfl, .refl, H5, q5, fun _ z => (by cases z)⟩) ?_
    · rintro d rest e1 m6 ⟨ps, y9, y10, k1, rfl, k3, k4, k5, k6⟩
      refine ⟨gd _ k3, _, rfl, ?_⟩
      refine nx_mono (w_price (kind := kind) k4 (by omega) k5 (by omega) (by omega) (by simp at k1; omega)) ?_
      rintro e' m' ⟨⟨z10, rfl⟩, w1, w2, p, w3, w4⟩
      refine ⟨ps ++ [p], _, z10, by simp at k1 ⊢; omega, rfl, k3.trans w1, w2, w4, fun x hx => ?_⟩
      rcases List.mem_append.mp hx with z | z
      · exact k6 x z
      · rw [List.mem_singleton.mp z]; exact w3
    · rintro e1 m6 ⟨ps, y9, y10, k1, rfl, k3, k4, k5, k6⟩
      exact gd _ k3
    · rintro e1 m6 ⟨ps, y9, y10, k1, rfl, k3, k4, k5, k6⟩
      simp at k1
      have hpos := h6.pos
      obtain ⟨_, m7, e7, outer, rfl, ho, f7, H7⟩ := ok_ex (w_draw k4.ok (many := 2 * (arr.length : Int)) (by omega) (by omega))
      have f56 : Fr h m4 m6 := fun i cc e n => k3 _ _ (p5 _ _ e) (by
        have := (List.getElem?_eq_some_iff.mp e).1
        simp
        omega)
      have F7 : Fr h m m7 := (((f1.trans f2).trans h3).trans f4).trans (f56.trans f7)
      have C7 := ((h5.fr f4).fr f56).fr f7
      have q7 := f7 _ _ k5 (by omega)
      have lenA : bLen [.ref ra] m6 = .ok (.int (arr.length : Int)) m6 := by rw [v_lenL (hra _ k3)]; simp
      obtain ⟨ks, r1, r2, r3⟩ := C7.hr
      have lenR : bLen [.ref rr] m7 = .ok (I rs.length) m7 := by rw [v_lenL r1]; simp [r2, I]
      have tA : bTuple [.ref ra] m7 = .ok (.tup (arr.map pD)) m7 := v_tupL C7.ha
      -- the rounds, as tuples
      have lc : Ok (eLc (iE (eVar 4)) (gN 12) (tYesA) (eCall bTuple (aCons (eVar 12) (aNil))) [12] [some (.ref h), some (I most), some (.bl true), some (.ref ra), some (.ref rr), y5, y6, some (I kind), some (.ref m4.length), y9, y10, some (I outer), none] m7) fun d m' => d = .ref m7.length ∧ Pre m7 m' ∧ m'[m7.length]? = some (.lst (rs.map tI)) := by
        have hne : m7.length ≠ rr := by
          have := (List.getElem?_eq_some_iff.mp r1).1
          omega
        have p8 : Pre m7 (m7 ++ [Cell.lst []]) := .add
        have hit : (eVar 4 [some (.ref h), some (I most), some (.bl true), some (.ref ra), some (.ref rr), y5, y6, some (I kind), some (.ref m4.length), y9, y10, some (I outer), none] m7).bind itD = .ok (ks.map D.ref, [(rr, .lst (ks.map D.ref))]) m7 := by
          show itD (.ref rr) m7 = _
          unfold itD
          simp only [r1]
        unfold eLc
        rw [w_iE, hit, v_bind]
        have key := lcL_map (tg := gN 12) (el := eCall bTuple (aCons (eVar 12) (aNil))) (gd := [(rr, .lst (ks.map D.ref))]) (env := wipeE [some (.ref h), some (I most), some (.bl true), some (.ref ra), some (.ref rr), y5, y6, some (I kind), some (.ref m4.length), y9, y10, some (I outer), none] [12]) (p0 := m7.length) (m0 := m7 ++ [Cell.lst []])
          (fun m' a p hp => by rw [List.mem_singleton.mp hp]; exact a _ _ (p8 _ _ r1) (by simp; omega)) (ks.map D.ref) (rs.map tI) (m7 ++ [Cell.lst []]) [] .refl (by simpa using r2) (fun i d x a b m' hk => by
            rw [List.getElem?_map] at a b
            cases hi : ks[i]? with
            | none => rw [hi] at a; cases a
            | some k =>
              cases hj : rs[i]? with
              | none => rw [hj] at b; cases b
              | some r =>
                rw [hi] at a; rw [hj] at b
                cases a; cases b
                have hkr := r3 i k r hi hj
                have hlt2 := (List.getElem?_eq_some_iff.mp hkr.1).1
                refine ⟨_, rfl, ?_⟩
                have := hk _ _ (p8 _ _ hkr.1) (by simp; omega)
                show (aCons (eVar 12) aNil (List.set _ 12 (some (.ref k))) m').bind bTuple = _
                show bTuple [.ref k] m' = _
                exact v_tupL this) new_get (by have := h6.rows; simp; omega)
        obtain ⟨_, m8, w1, w2, w3⟩ := ok_ex key
        dsimp only
        rw [w1]
        refine ⟨rfl, fun j cc e => w2 _ _ (p8 _ _ e) ?_, by simpa using w3⟩
        have := (List.getElem?_eq_some_iff.mp e).1
        simp
        omega
      obtain ⟨_, m8, w1, rfl, w2, w3⟩ := ok_ex lc
      have tR : bTuple [.ref m7.length] m8 = .ok (.tup (rs.map tI)) m8 := v_tupL w3
      have tP : bTuple [.ref m4.length] m8 = .ok (.tup ps) m8 := v_tupL (w2 _ _ q7)
      have m2a : ∀ (w : Int) (m : Mem), dMul (.int 2) (.int w) m = .ok (.int (2 * w)) m := fun w m => v_mul (.inl (by decide))
      have fin : Fr h m m8 ∧ HandOK h m8 ∧ ∃ arr' rs' outer' ps', Drawn' (.tup [I rs.length, .tup (arr.map pD), .tup (rs.map tI), I outer, .tup ps]) most arr' rs' outer' ps' :=
        ⟨F7.trans w2.fr, HandOK.pre H7 w2, arr, rs, outer, ps, ⟨rfl, h6, hn, by omega, by omega, k6⟩⟩
      have s7 : sAsg (eCall f_law_draw (aCons (eVar 0) (aCons (eOp dMul (eC (.int 2)) (eCall bLen (aCons (eVar 3) (aNil)))) (aNil)))) (gN 11) [some (.ref h), some (I most), some (.bl true), some (.ref ra), some (.ref rr), y5, y6, some (I kind), some (.ref m4.length), y9, y10, none, none] m6 = .nx [some (.ref h), some (I most), some (.bl true), some (.ref ra), some (.ref rr), y5, y6, some (I kind), some (.ref m4.length), y9, y10, some (I outer), none] m7 := by
        simp [lenA, m2a, e7]
      rw [v_seq, s7, v_nx, v_ret]
      have s8 : (eCall mkTup (aCons (eCall bLen (aCons (eVar 4) (aNil))) (aCons (eCall bTuple (aCons (eVar 3) (aNil))) (aCons (eCall bTuple (aCons (eLc (iE (eVar 4)) (gN 12) (tYesA) (eCall bTuple (aCons (eVar 12) (aNil))) [12]) (aNil))) (aCons (eVar 11) (aCons (eCall bTuple (aCons (eVar 8) (aNil))) (aNil))))))) [some (.ref h), some (I most), some (.bl true), some (.ref ra), some (.ref rr), y5, y6, some (I kind), some (.ref m4.length), y9, y10, some (I outer), none] m7 = .ok (.tup [I rs.length, .tup (arr.map pD), .tup (rs.map tI), I outer, .tup ps]) m8 := by
        simp [lenR, tA, w1, tR, tP]
      rw [s8, v_o, v_frt]
      exact fin
end Cl
set_option Elab.async false
set_option linter.all false
set_option maxRecDepth 100000
namespace Cl
open PySem PySem.Spec PyProof.Rows L2 Ab
/-- a while whose measure falls -/
theorem while_go {c : AT} {b : AS} (Inv : Nat → Env' → Mem → Prop) (Fin : Env' → Mem → Prop) (hs : ∀ n e m, Inv n e m → (∃ m2, c e m = .ok false m2 ∧ Fin e m2) ∨ ∃ m2, c e m = .ok true m2 ∧ ∃ k, k < n ∧ Nx (b e m2) (Inv k)) :
    ∀ (n : Nat) (e : Env') (m : Mem), Inv n e m → ∃ (k : Nat) (e' : Env') (m' : Mem), whileN c b k e m = .nx e' m' ∧ Fin e' m' := by
  intro n
  induction n using Nat.strongRecOn with
  | ind n ih =>
    intro e m h
    rcases hs n e m h with ⟨m2, h1, h2⟩ | ⟨m2, h1, k, hk, h2⟩
    · refine ⟨1, e, m2, ?_, h2⟩
      show ((c e m).o e fun k m => if k = true then _ else O.nx e m) = _
      rw [h1, v_o, if_neg Bool.false_ne_true]
    · cases h3 : b e m2 with
      | nx e3 m3 =>
        rw [h3] at h2
        obtain ⟨j, e', m', w1, w2⟩ := ih k hk e3 m3 h2
        refine ⟨j + 1, e', m', ?_, w2⟩
        show ((c e m).o e fun k m => if k = true then (match b e m with | .nx e m => whileN c b j e m | .ct e m => whileN c b j e m | .bk e m => .nx e m | .rt d m => .rt d m | .er x e m => .er x e m | .no => .no) else O.nx e m) = _
        rw [h1, v_o, if_pos rfl, h3]
        exact w1
      | _ => rw [h3] at h2; exact h2.elim
theorem while_nx {c : AT} {b : AS} {e : Env'} {m : Mem} {K : Env' → Mem → Prop} (Inv : Nat → Env' → Mem → Prop) (hs : ∀ n e m, Inv n e m → (∃ m2, c e m = .ok false m2 ∧ K e m2) ∨ ∃ m2, c e m = .ok true m2 ∧ ∃ k, k < n ∧ Nx (b e m2) (Inv k)) {n : Nat} (h : Inv n e m) : Nx (sWhile c b e m) K := by
  obtain ⟨k, e', m', h1, h2⟩ := while_go Inv K hs n e m h
  rw [sWhile_of h1 (by intro z; cases z)]
  exact h2
theorem xor1 (e : Nat) : Builtin.bitXor (e : Int) 1 = (Ch.o e : Int) := by
  rw [bitXor_and, bitAnd_m1]
  unfold Ch.o
  split <;> omega
theorem w_other_end (e : Nat) (m : Mem) : f_other_end [I e] m = .ok (I (Ch.o e)) m := by
  unfold f_other_end afOf a_other_end
  have : dXor (I e) (.int 1) m = .ok (I (Ch.o e)) m := by
    show R.ok (D.int (Builtin.bitXor (e : Int) 1)) m = _
    rw [xor1]; rfl
  simp [this]
theorem w_neII (a b : Nat) (m : Mem) : dNe (I a) (I b) m = .ok (.bl (!decide (a = b))) m := by
  rw [show dNe (I a) (I b) m = _ from w_neI]
  congr 3
  exact decide_eq_decide.mpr ⟨fun q => by omega, fun q => by omega⟩
noncomputable def wStep : AS := sSeq (sExp (eMt isL mAppend (eVar 2) (aCons (eVar 3) (aNil)))) (sAsg (eOp dIx (eVar 0) (eCall f_other_end (aCons (eVar 3) (aNil)))) (gN 3))
theorem w_rim_from {rs rims : List (List Nat)} {N : Nat} (F : Ch.Flat rs rims N) {a : Nat} {s t : List Nat} (hq : s ++ a :: t ∈ rims) {ka : Nat} {m : Mem} (hm : m[ka]? = some (.dic (aK rs rs.flatten))) (hN : N ≤ 1000) :
    Ok (f_rim_from [.ref ka, I a] m) fun d m' => d = tI (a :: (t ++ s)) ∧ Pre m m' := by
  obtain ⟨L, hL⟩ : ∃ L, L = t ++ s := ⟨_, rfl⟩
  have old : ∀ p, p ∈ Ch.cy (s ++ a :: t) ↔ p ∈ Ch.pp (a :: (L ++ [a])) := fun p => by rw [Ch.cy_cut, ← hL]; rfl
  have hnd : (a :: L).Nodup := by
    rw [hL]
    exact (List.perm_append_comm (l₁ := s) (l₂ := a :: t)).nodup_iff.mp (Ch.flat_nd F.md hq)
  have inN : ∀ e, e ∈ a :: L → e < N := fun e he => by
    have : e ∈ s ++ a :: t := by
      rw [hL] at he
      exact (List.perm_append_comm (l₁ := s) (l₂ := a :: t)).mem_iff.mpr he
    exact List.mem_range.mp (F.mN.mem_iff.mp (List.mem_flatten.mpr ⟨_, hq, this⟩))
  have hlen : (a :: L).length ≤ N := by
    have h1 : (s ++ a :: t).length ≤ N := by
      obtain ⟨A, B, hAB⟩ := Ch.mem_cut hq
      have := F.mN.length_eq
      rw [hAB, List.length_range] at this
      simp [List.length_flatten] at this ⊢
      omega
    rw [hL]; simp at h1 ⊢; omega
  have go : ∀ (l1 l2 : List Nat) (c : Nat), L = l1 ++ c :: l2 → ∀ m', m'[ka]? = some (.dic (aK rs rs.flatten)) → dIx (.ref ka) (I (Ch.o c)) m' = .ok (I ((l2 ++ [a]).head (by simp))) m' := by
    intro l1 l2 c hc m' hm'
    have hp : (c, (l2 ++ [a]).head (by simp)) ∈ Ch.cy (s ++ a :: t) := by
      rw [old, hc, show a :: (l1 ++ c :: l2 ++ [a]) = (a :: l1) ++ c :: (l2 ++ [a]) by simp, Ch.pp_cut, List.mem_append]
      right
      cases l2 with
      | nil => exact List.mem_cons_self
      | cons b l2 => exact List.mem_cons_self
    have hP := F.ad _ hq _ _ hp
    have hcN : c < N := inN c (by rw [hc]; simp)
    have hom : Ch.o c ∈ rs.flatten := F.rN.mem_iff.mpr (List.mem_range.mpr (Ch.o_lt F.ev hcN))
    exact v_getD hm' (by rw [aK_get hom, Ch.prd_eq F.nd hP])
  have go0 : ∀ m', m'[ka]? = some (.dic (aK rs rs.flatten)) → dIx (.ref ka) (I (Ch.o a)) m' = .ok (I ((L ++ [a]).head (by simp))) m' := by
    intro m' hm'
    have hp : (a, (L ++ [a]).head (by simp)) ∈ Ch.cy (s ++ a :: t) := by
      rw [old]
      cases L with
      | nil => exact List.mem_cons_self
      | cons b l => exact List.mem_cons_self
    have hP := F.ad _ hq _ _ hp
    have haN : a < N := inN a (by simp)
    have hom : Ch.o a ∈ rs.flatten := F.rN.mem_iff.mpr (List.mem_range.mpr (Ch.o_lt F.ev haN))
    exact v_getD hm' (by rw [aK_get hom, Ch.prd_eq F.nd hP])
  obtain ⟨m1, hm1⟩ : ∃ m1, m1 = m ++ [Cell.lst [I a]] := ⟨_, rfl⟩
  have p1 : Pre m m1 := by rw [hm1]; exact .add
  have q1 : m1[m.length]? = some (.lst [I a]) := by rw [hm1]; exact new_get
  have hka := (List.getElem?_eq_some_iff.mp hm).1
  unfold f_rim_from afOf a_rim_from
  have s1 : sAsg (eCall mkLst (aCons (eVar 1) (aNil))) (gN 2) [some (.ref ka), some (I a), none, none] m = .nx [some (.ref ka), some (I a), some (.ref m.length), none] m1 := by
    simp [mkL1, ← hm1]
  have s2 : sAsg (eOp dIx (eVar 0) (eCall f_other_end (aCons (eVar 1) (aNil)))) (gN 3) [some (.ref ka), some (I a), some (.ref m.length), none] m1 = .nx [some (.ref ka), some (I a), some (.ref m.length), some (I ((L ++ [a]).head (by simp)))] m1 := by
    simp [w_other_end, go0 m1 (p1 _ _ hm)]
  show Ok ((sSeq (sAsg (eCall mkLst (aCons (eVar 1) (aNil))) (gN 2)) _ [some (.ref ka), some (I a), none, none] m).f) _
  rw [v_seq, s1, v_nx, v_seq, s2, v_nx, v_seq]
  refine seq_f ?_
  let Inv : Nat → Env' → Mem → Prop := fun n e' m' => ∃ l1 l2, L = l1 ++ l2 ∧ n = l2.length ∧ e' = [some (.ref ka), some (I a), some (.ref m.length), some (I ((l2 ++ [a]).head (by simp)))] ∧ Kp [m.length] m1 m' ∧ m'[m.length]? = some (.lst ((a :: l1).map I))
  refine while_nx (c := tVal (eOp dNe (eVar 3) (eVar 1))) (b := wStep) Inv ?_ (n := L.length) ⟨[], L, rfl, rfl, rfl, .refl, by simpa using q1⟩
  rintro n e' m' ⟨l1, l2, h1, h2, rfl, h3, h4⟩
  have hm' : m'[ka]? = some (.dic (aK rs rs.flatten)) := h3 _ _ (p1 _ _ hm) (by simp; omega)
  cases l2 with
  | nil =>
    left
    refine ⟨m', by simp [w_neII], ?_⟩
    have : l1 = L := by simpa using h1.symm
    subst this
    simp [v_tupL h4]
    refine ⟨?_, fun i c e => h3 _ _ (p1 _ _ e) ?_⟩
    · rw [hL]; rfl
    · have := (List.getElem?_eq_some_iff.mp e).1
      simp; omega
  | cons c l2 =>
    right
    have hca : ¬ c = a := fun z => by
      have := (List.nodup_cons.mp hnd).1
      exact this (by rw [h1, ← z]; simp)
    refine ⟨m', by simp [w_neII, hca], l2.length, by rw [h2]; simp, ?_⟩
    have hl1 : (a :: l1).length < 2 ^ 24 := by
      have := hlen
      rw [h1] at this
      simp at this ⊢
      omega
    have sa : mAppend (.ref m.length) [I c] m' = .ok .non (m'.set m.length (.lst ((a :: l1).map I ++ [I c]))) := v_append h4 (by simpa using hl1)
    have hm2 : (m'.set m.length (.lst ((a :: l1).map I ++ [I c])))[ka]? = some (.dic (aK rs rs.flatten)) := by rw [List.getElem?_set_ne (by omega)]; exact hm'
    have gg := go l1 l2 c h1 _ hm2
    simp at sa gg
    simp [wStep, w_mt, w_isL h4, sa, w_other_end, gg]
    refine ⟨l1 ++ [c], l2, by simp [h1], rfl, rfl, h3.trans (Kp.set (by simp)), ?_⟩
    rw [get_set h4]; simp
end Cl
set_option Elab.async false
set_option linter.all false
set_option maxRecDepth 100000
namespace Cl
open PySem PySem.Spec PyProof.Rows L2 Ab
theorem valD_put {kvs : List (Key × D)} {k k' : Key} {v : D} : (valD (putD kvs k v) k').isSome = (decide (k' = k) || (valD kvs k').isSome) := by
  unfold putD valD
  simp only [Option.isSome_map]
  split
  · rename_i h
    rw [List.find?_map]
    simp only [Option.isSome_map]
    have e1 : ((fun kv : Key × D => decide (kv.1 = k')) ∘ fun kv : Key × D => if kv.1 = k then (kv.1, v) else kv) = fun kv => decide (kv.1 = k') := by
      funext kv
      simp only [Function.comp]
      split <;> rfl
    rw [e1]
    by_cases z : k' = k
    · subst z
      simp only [decide_true, Bool.true_or]
      rw [List.find?_isSome]
      obtain ⟨x, hx, hx2⟩ := List.any_eq_true.mp h
      exact ⟨x, hx, hx2⟩
    · simp [z]
  · rw [List.find?_append, Option.isSome_or]
    by_cases z : k' = k
    · subst z; simp
    · have : ¬ k = k' := fun q => z q.symm
      simp [z, this]
noncomputable def wMark : AS := sAsg (eC (.bl true)) (gS dSet (eVar 6) (eVar 9))
theorem w_mark {k6 : Nat} {S : Nat → Prop} [DecidablePred S] {R0 : D} {x1 x2 x3 x4 x5 x7 x8 x9 : Option D} {m : Mem} {kvs : List (Key × D)} {l : List Nat} (h6 : m[k6]? = some (.dic kvs)) (hS : ∀ e : Nat, (valD kvs (.inl (e : Int))).isSome = decide (S e)) (hl : kvs.length + l.length < 60000) :
    Nx (forL (gN 9) wMark [] (l.map I) [some R0, x1, x2, x3, x4, x5, some (.ref k6), x7, x8, x9] m) fun e' m' => (∃ y9, e' = [some R0, x1, x2, x3, x4, x5, some (.ref k6), x7, x8, y9]) ∧ Kp [k6] m m' ∧ ∃ kvs', m'[k6]? = some (.dic kvs') ∧ kvs'.length ≤ kvs.length + l.length ∧ ∀ e : Nat, (valD kvs' (.inl (e : Int))).isSome = decide (S e ∨ e ∈ l) := by
  let Inv : List D → Env' → Mem → Prop := fun rest e' m' => ∃ (a b : List Nat) (kvs' : List (Key × D)) (y9 : Option D), l = a ++ b ∧ rest = b.map I ∧ e' = [some R0, x1, x2, x3, x4, x5, some (.ref k6), x7, x8, y9] ∧ Kp [k6] m m' ∧ m'[k6]? = some (.dic kvs') ∧ kvs'.length ≤ kvs.length + a.length ∧ ∀ e : Nat, (valD kvs' (.inl (e : Int))).isSome = decide (S e ∨ e ∈ a)
  refine nx_mono (forL_go (b := wMark) Inv ?_ (fun _ _ _ => gd_nil) _ _ _ ⟨[], l, kvs, x9, rfl, rfl, rfl, .refl, h6, by simp, by simpa using hS⟩) ?_
  · rintro d rest e1 m1 ⟨a, b, kvs', y9, h1, h2, rfl, h3, h4, h5, h7⟩
    cases b with
    | nil => cases h2
    | cons x b =>
      rw [List.map_cons] at h2
      cases h2
      refine ⟨gd_nil, _, rfl, ?_⟩
      have hset : dSet (.ref k6) (I x) (.bl true) m1 = .ok () (m1.set k6 (.dic (putD kvs' (.inl (x : Int)) (.bl true)))) := v_setD h4 (by rw [h1] at hl; simp at hl; omega)
      simp [wMark, hset]
      refine ⟨a ++ [x], b, putD kvs' (.inl (x : Int)) (.bl true), some (I x), by simp [h1], rfl, rfl, h3.trans (Kp.set (by simp)), get_set h4, ?_, fun e => ?_⟩
      · have := putD_len kvs' (.inl (x : Int)) (.bl true); simp; omega
      · rw [valD_put, h7 e]
        by_cases z : e = x
        · subst z; simp
        · have : ¬ ((Sum.inl (e : Int) : Key) = .inl (x : Int)) := fun q => z (by have := Sum.inl.inj q; omega)
          simp [z, this]
  · rintro e1 m1 ⟨a, b, kvs', y9, h1, h2, rfl, h3, h4, h5, h7⟩
    have : b = [] := by cases b with | nil => rfl | cons x b => cases h2
    subst this
    simp at h1
    subst h1
    exact ⟨⟨_, rfl⟩, h3, kvs', h4, h5, h7⟩
end Cl
set_option Elab.async false
set_option linter.all false
set_option maxRecDepth 100000
namespace Cl
open PySem PySem.Spec PyProof.Rows L2 Ab
noncomputable def wFind : AS := sIf (tVal (eOp dNotIn (eVar 7) (eVar 6)))
    (sSeq (sAsg (eCall f_rim_from (aCons (eVar 1) (aCons (eVar 7) (aNil)))) (gN 8))
    (sSeq (sFor (iE (eVar 8)) (gN 9) wMark)
    (sExp (eMt isL mAppend (eVar 5) (aCons (eVar 8) (aNil))))))
    (sSkip)
/-- the rim of an angle, begun with it -/
def orb (rims : List (List Nat)) (e : Nat) : List Nat := match rims.find? (fun q => decide (e ∈ q)) with
  | some q => q.drop (q.idxOf e) ++ q.take (q.idxOf e)
  | none => []
def rimsX (rims : List (List Nat)) (es : List Nat) : List (List Nat) := es.foldl (fun acc e => if e ∈ acc.flatten then acc else acc ++ [orb rims e]) []
theorem rimsX_snoc {rims : List (List Nat)} {es : List Nat} {e : Nat} : rimsX rims (es ++ [e]) = if e ∈ (rimsX rims es).flatten then rimsX rims es else rimsX rims es ++ [orb rims e] := by
  unfold rimsX
  rw [List.foldl_append]
  rfl
theorem orb_eq {rims : List (List Nat)} (hn : rims.flatten.Nodup) {s t : List Nat} {e : Nat} (h : s ++ e :: t ∈ rims) : orb rims e = e :: (t ++ s) := by
  have hx : e ∈ s ++ e :: t := by simp
  have hs : e ∉ s := fun z => by
    have := Ch.flat_nd hn h
    rw [List.nodup_append] at this
    exact this.2.2 e z e (by simp) rfl
  unfold orb
  cases hf : rims.find? (fun q => decide (e ∈ q)) with
  | none => exact absurd (List.find?_eq_none.mp hf _ h) (by simp)
  | some q =>
    have h1 : e ∈ q := by simpa using List.find?_some hf
    have h2 := List.mem_of_find?_eq_some hf
    have : q = s ++ e :: t := Ch.flat_inj hn h2 h h1 hx
    subst this
    dsimp only
    have hi : (s ++ e :: t).idxOf e = s.length := by
      rw [List.idxOf_append, if_neg hs]; simp
    rw [hi, List.drop_left, List.take_left]
    rfl
/-- the rims, each told once -/
structure AllRims (rims fs : List (List Nat)) (N : Nat) : Prop where
  perm : fs.flatten.Perm (List.range N)
  eq : fs = rimsX rims (List.range N)
  len : fs.length = rims.length
  has : ∀ e, e < N → ∃ f ∈ fs, e ∈ f
  ne : ∀ f ∈ fs, f ≠ []
  lt : ∀ f ∈ fs, ∀ e ∈ f, e < N
theorem flat_len {rims : List (List Nat)} {N : Nat} {rs : List (List Nat)} (F : Ch.Flat rs rims N) {S T : List (List Nat)} (h : rims.Perm (S ++ T)) : S.flatten.length + T.flatten.length = N := by
  have h1 := (List.Perm.flatten h).length_eq
  have h2 := F.mN.length_eq
  rw [List.length_range] at h2
  rw [List.flatten_append, List.length_append] at h1
  omega
theorem w_find {rs rims : List (List Nat)} {N : Nat} (F : Ch.Flat rs rims N) (hN : N ≤ 200) {ka k5 k6 : Nat} {R0 : D} {x2 x3 x4 x7 x8 x9 : Option D} {m : Mem} (hm1 : m[ka]? = some (.dic (aK rs rs.flatten))) (hm5 : m[k5]? = some (.lst [])) (hm6 : m[k6]? = some (.dic []))
    (n1 : ka ≠ k6) (n2 : ka ≠ k5) (n3 : k5 ≠ k6) :
    Nx (forL (gN 7) wFind [] ((List.range N).map I) [some R0, some (.ref ka), x2, x3, x4, some (.ref k5), some (.ref k6), x7, x8, x9] m) fun e' m' => (∃ y7 y8 y9, e' = [some R0, some (.ref ka), x2, x3, x4, some (.ref k5), some (.ref k6), y7, y8, y9]) ∧ Kp [k5, k6] m m' ∧ ∃ fs, m'[k5]? = some (.lst (fs.map tI)) ∧ AllRims rims fs N := by
  let Inv : List D → Env' → Mem → Prop := fun rest e' m' => ∃ (a b : List Nat) (S T : List (List Nat)) (fs : List (List Nat)) (kvs : List (Key × D)), List.range N = a ++ b ∧ rest = b.map I ∧ (∃ y7 y8 y9, e' = [some R0, some (.ref ka), x2, x3, x4, some (.ref k5), some (.ref k6), y7, y8, y9]) ∧ Kp [k5, k6] m m' ∧
    rims.Perm (S ++ T) ∧ m'[k6]? = some (.dic kvs) ∧ kvs.length ≤ S.flatten.length ∧ (∀ e : Nat, (valD kvs (.inl (e : Int))).isSome = decide (e ∈ S.flatten)) ∧ m'[k5]? = some (.lst (fs.map tI)) ∧ fs.length = S.length ∧ (∀ e, e ∈ fs.flatten ↔ e ∈ S.flatten) ∧ (∀ f ∈ fs, f ≠ []) ∧ (∀ e ∈ a, e ∈ S.flatten) ∧ fs.flatten.Perm S.flatten ∧ fs = rimsX rims a
  refine nx_mono (forL_go (b := wFind) Inv ?_ (fun _ _ _ => gd_nil) _ _ _ ⟨[], List.range N, [], rims, [], [], rfl, rfl, ⟨_, _, _, rfl⟩, .refl, .refl _, hm6, by simp, fun e => by simp [valD], by simpa using hm5, rfl, fun e => by simp, fun f hf => (by cases hf), fun e he => (by cases he), .refl _, rfl⟩) ?_
  · rintro d rest e1 m1 ⟨a, b, S, T, fs, kvs, h1, h2, ⟨y7, y8, y9, rfl⟩, h3, h4, h5, h6, h7, h8, h9, h10, h11, h12, h13, h14⟩
    cases b with
    | nil => cases h2
    | cons x b =>
      rw [List.map_cons] at h2
      cases h2
      refine ⟨gd_nil, _, rfl, ?_⟩
      have hxN : x < N := List.mem_range.mp (by rw [h1]; simp)
      by_cases hs : x ∈ S.flatten
      · have hv : (valD kvs (.inl (x : Int))).isSome = true := by rw [h7]; simpa using hs
        simp [wFind, v_notIn h5, hv]
        refine ⟨a ++ [x], b, S, T, fs, kvs, by simp [h1], rfl, ⟨_, _, _, rfl⟩, h3, h4, h5, h6, h7, h8, h9, h10, h11, fun e he => ?_, h13, ?_⟩
        · rcases List.mem_append.mp he with z | z
          · exact h12 e z
          · rw [List.mem_singleton.mp z]; exact hs
        · rw [rimsX_snoc, ← h14, if_pos ((h10 x).mpr hs)]
      · have hv : (valD kvs (.inl (x : Int))).isSome = false := by rw [h7]; simpa using hs
        have hxT : x ∈ T.flatten := by
          have : x ∈ rims.flatten := F.mN.mem_iff.mpr (List.mem_range.mpr hxN)
          have := (List.Perm.flatten h4).mem_iff.mp this
          rw [List.flatten_append, List.mem_append] at this
          rcases this with z | z
          · exact absurd z hs
          · exact z
        obtain ⟨q, hq, hxq⟩ := List.mem_flatten.mp hxT
        obtain ⟨T1, T2, hT⟩ := Ch.mem_cut hq
        obtain ⟨s, t, hst⟩ := Ch.mem_cut hxq
        have hqr : s ++ x :: t ∈ rims := by rw [← hst]; exact h4.mem_iff.mpr (List.mem_append_right _ hq)
        have hka : m1[ka]? = some (.dic (aK rs rs.flatten)) := h3 _ _ hm1 (by simp [n1, n2])
        obtain ⟨_, m2, e2, rfl, p2⟩ := ok_ex (w_rim_from F hqr hka (by omega))
        have hperm : (x :: (t ++ s)).Perm q := by rw [hst]; exact (List.perm_append_comm (l₁ := s) (l₂ := x :: t)).symm
        have hP' : rims.Perm ((S ++ [q]) ++ (T1 ++ T2)) := by
          refine h4.trans ?_
          rw [hT]
          have : (T1 ++ q :: T2).Perm (q :: (T1 ++ T2)) := List.perm_middle
          simpa using this.append_left S
        have hfl := flat_len F hP'
        have hql : q.length = (x :: (t ++ s)).length := hperm.length_eq.symm
        have hfq : (S ++ [q]).flatten.length = S.flatten.length + q.length := by simp
        have hb1 : kvs.length + (x :: (t ++ s)).length < 60000 := by rw [← hql]; omega
        have e2' : f_rim_from [.ref ka, I x] m1 = .ok (tI (x :: (t ++ s))) m2 := e2
        simp [wFind, v_notIn h5, hv, e2']
        refine seq_n ?_
        rw [w_for]
        show Nx (forL (gN 9) wMark [] ((x :: (t ++ s)).map I) [some R0, some (.ref ka), x2, x3, x4, some (.ref k5), some (.ref k6), some (I x), some (tI (x :: (t ++ s))), y9] m2) _
        refine nx_mono (w_mark (S := fun e => e ∈ S.flatten) (p2 _ _ h5) h7 hb1) ?_
        rintro e' m3 ⟨⟨z9, rfl⟩, k1, kvs', k2, k3, k4⟩
        have h53 : m3[k5]? = some (.lst (fs.map tI)) := k1 _ _ (p2 _ _ h8) (by simp [n3])
        have hfsl : fs.length < 2 ^ 24 := by
          have : S.length ≤ rims.length := by have := h4.length_eq; simp at this; omega
          have h13 : rims.length ≤ N := by
            have h14 := F.mN.length_eq
            rw [List.length_range, List.length_flatten] at h14
            have : ∀ (l : List (List Nat)), (∀ r ∈ l, r ≠ []) → l.length ≤ (l.map List.length).sum := by
              intro l
              induction l with
              | nil => simp
              | cons r l ih =>
                intro hr
                have h1 := ih fun r hr2 => hr r (List.mem_cons_of_mem _ hr2)
                have h2 : 0 < r.length := List.length_pos_iff.mpr (hr r List.mem_cons_self)
                simp
                omega
            have := this rims F.ne
            omega
          omega
        have sa : mAppend (.ref k5) [tI (x :: (t ++ s))] m3 = .ok .non (m3.set k5 (.lst (fs.map tI ++ [tI (x :: (t ++ s))]))) := v_append h53 (by simpa using hfsl)
        simp [w_mt, w_isL h53, sa]
        refine ⟨a ++ [x], b, S ++ [q], T1 ++ T2, fs ++ [x :: (t ++ s)], kvs', by simp [h1], rfl, ⟨_, _, _, rfl⟩, h3.trans ?_, by simpa using hP', ?_, ?_, fun e => ?_, ?_, by simp [h9], fun e => ?_, ?_, ?_, ?_, ?_⟩
        · refine ((Kp.pre p2).trans fun j c e n => k1 j c e ?_).trans (Kp.set (by simp))
          simp at n ⊢; exact n.2
        · rw [List.getElem?_set_ne n3]; exact k2
        · rw [hfq, hql]; omega
        · rw [k4 e]
          have : e ∈ x :: (t ++ s) ↔ e ∈ q := hperm.mem_iff
          simp [this]
        · rw [get_set h53]; simp
        · have : e ∈ x :: (t ++ s) ↔ e ∈ q := hperm.mem_iff
          rw [List.flatten_append, List.flatten_append, List.mem_append, List.mem_append, h10 e]
          simp only [List.flatten_cons, List.flatten_nil, List.append_nil]
          rw [this]
        · intro f hf
          rcases List.mem_append.mp hf with z | z
          · exact h11 f z
          · rw [List.mem_singleton.mp z]; simp
        · intro e he
          rw [List.flatten_append, List.mem_append]
          rcases List.mem_append.mp he with z | z
          · exact .inl (h12 e z)
          · right; rw [List.mem_singleton.mp z]; simpa using hxq
        · rw [List.flatten_append, List.flatten_append]
          simp only [List.flatten_cons, List.flatten_nil, List.append_nil]
          exact h13.append hperm
        · rw [rimsX_snoc, ← h14, if_neg (fun z => hs ((h10 x).mp z)), orb_eq F.md hqr]
  · rintro e1 m1 ⟨a, b, S, T, fs, kvs, h1, h2, h2b, h3, h4, h5, h6, h7, h8, h9, h10, h11, h12, h13, h14⟩
    have : b = [] := by cases b with | nil => rfl | cons x b => cases h2
    subst this
    simp at h1
    have hS : ∀ e, e < N → e ∈ S.flatten := fun e he => h12 e (by rw [← h1]; exact List.mem_range.mpr he)
    have hfl := flat_len F h4
    have hT : T = [] := by
      cases T with
      | nil => rfl
      | cons r T =>
        exfalso
        have hrm : r ∈ rims := h4.mem_iff.mpr (by simp)
        cases r with
        | nil => exact F.ne _ hrm rfl
        | cons y r =>
          have hyN : y < N := List.mem_range.mp (F.mN.mem_iff.mp (List.mem_flatten.mpr ⟨_, hrm, List.mem_cons_self⟩))
          have hnd : (S ++ (y :: r) :: T).flatten.Nodup := (List.Perm.flatten h4).nodup_iff.mp F.md
          rw [List.flatten_append, List.nodup_append] at hnd
          exact hnd.2.2 y (hS y hyN) y (by simp) rfl
    subst hT
    simp at h4
    have hmem : ∀ e, e ∈ fs.flatten ↔ e < N := fun e => by
      rw [h10 e, ← (List.Perm.flatten h4).mem_iff, F.mN.mem_iff, List.mem_range]
    exact ⟨h2b, h3, fs, h8, ⟨(h13.trans (List.Perm.flatten h4).symm).trans F.mN, by rw [h14, h1], by rw [h9, h4.length_eq], fun e he => by
      obtain ⟨f, hf, hx⟩ := List.mem_flatten.mp ((hmem e).mpr he)
      exact ⟨f, hf, hx⟩, h11, fun f hf e he => (hmem e).mp (List.mem_flatten.mpr ⟨f, hf, he⟩)⟩⟩
end Cl
set_option Elab.async false
set_option linter.all false
set_option maxRecDepth 100000
namespace Cl
open PySem PySem.Spec PyProof.Rows L2 Ab
theorem w_rims_between {m : Mem} {N : Nat} {rs rims : List (List Nat)} (F : Ch.Flat rs rims N) (hN : N ≤ 200) :
    Ok (f_rims_between [.tup (rs.map tI)] m) fun d m' => ∃ k fs, d = .ref k ∧ Pre m m' ∧ m.length ≤ k ∧ m'[k]? = some (.lst (fs.map tI)) ∧ AllRims rims fs N := by
  have hlf : rs.flatten.length = N := by have := F.rN.length_eq; rw [List.length_range] at this; exact this
  obtain ⟨m1, hm1⟩ : ∃ m1, m1 = m ++ [Cell.dic []] := ⟨_, rfl⟩
  have p1 : Pre m m1 := by rw [hm1]; exact .add
  have g1 : m1[m.length]? = some (.dic []) := by rw [hm1]; exact new_get
  have lt : ∀ {k : Nat} {c : Cell}, m[k]? = some c → k < m.length := fun e => (List.getElem?_eq_some_iff.mp e).1
  have hdic : ∀ e m, eCall (fun _ => mkDic []) aNil e m = .ok (.ref m.length) (m ++ [.dic []]) := fun _ _ => rfl
  unfold f_rims_between afOf a_rims_between
  rw [v_seq, v_asg, hdic, v_o, v_gN, v_o, v_nx, v_seq, ← hm1]
  refine seq_f ?_
  rw [w_for, w_iE]
  show Nx (((eVar 0 ([some (D.tup (rs.map tI))] ++ List.replicate 9 none |>.set 1 (some (.ref m.length))) m1).bind itD).o _ _) _
  have e0 : (eVar 0 ([some (D.tup (rs.map tI))] ++ List.replicate 9 none |>.set 1 (some (.ref m.length))) m1).bind itD = .ok (rs.map tI, []) m1 := rfl
  rw [e0, v_o]
  show Nx (forL (gN 2) wAh2 _ _ (some (.tup (rs.map tI)) :: some (.ref m.length) :: none :: none :: none :: List.replicate 5 none) m1) _
  refine nx_mono (w_ah2 (rs := rs) F.nd (by omega) (by simp) ?_ g1 (fun _ _ => gd_nil)) ?_
  · intro i d r e1 e2
    rw [List.getElem?_map, e2] at e1
    cases e1
    exact rowAt_tup F.nd (List.mem_of_getElem? e2)
  · rintro e2 m2 ⟨⟨y2, y3, y4, rfl⟩, f2, g2⟩
    have p2 : Pre m m2 := fun i c e => f2 i c (p1 i c e) (by have := lt e; omega)
    have lka : m.length < m2.length := (List.getElem?_eq_some_iff.mp g2).1
    obtain ⟨m3, hm3⟩ : ∃ m3, m3 = m2 ++ [Cell.lst []] := ⟨_, rfl⟩
    obtain ⟨m4, hm4⟩ : ∃ m4, m4 = m3 ++ [Cell.dic []] := ⟨_, rfl⟩
    have p3 : Pre m2 m3 := by rw [hm3]; exact .add
    have p4 : Pre m3 m4 := by rw [hm4]; exact .add
    have l3 : m3.length = m2.length + 1 := by rw [hm3]; simp
    have q3 : m3[m2.length]? = some (.lst []) := by rw [hm3]; exact new_get
    have q4 : m4[m3.length]? = some (.dic []) := by rw [hm4]; exact new_get
    show Ok ((O.seq (sAsg (eCall mkLst aNil) (gN 5) (some (.tup (rs.map tI)) :: some (.ref m.length) :: y2 :: y3 :: y4 :: List.replicate 5 none) m2) _).f) _
    have s3 : sAsg (eCall mkLst aNil) (gN 5) (some (.tup (rs.map tI)) :: some (.ref m.length) :: y2 :: y3 :: y4 :: List.replicate 5 none) m2 = .nx [some (.tup (rs.map tI)), some (.ref m.length), y2, y3, y4, some (.ref m2.length), none, none, none, none] m3 := by
      rw [v_asg, v_call, v_nil, v_bind, mk0, v_o, v_gN, v_o, hm3]; rfl
    rw [s3, v_nx, v_seq, v_asg, hdic, v_o, v_gN, v_o, v_nx, v_seq, ← hm4]
    refine seq_f ?_
    have g4 : m4[m.length]? = some (.dic (aK rs rs.flatten)) := p4 _ _ (p3 _ _ g2)
    have hlenK : (aK rs rs.flatten).length = N := by unfold aK; rw [List.length_map]; exact hlf
    have e4 : (aCons (eCall bLen (aCons (eVar 1) (aNil))) (aNil)) [some (.tup (rs.map tI)), some (.ref m.length), y2, y3, y4, some (.ref m2.length), some (.ref m3.length), none, none, none] m4 = .ok [I N] m4 := by
      have : bLen [.ref m.length] m4 = .ok (I N) m4 := by rw [v_lenD g4, hlenK]; rfl
      rw [v_cons, v_call, v_cons, v_vs, v_v0 (z := none), v_bind, v_nil, v_bind, v_bind, this, v_bind]
      rfl
    rw [w_for]
    show Nx ((iA rng1 (aCons (eCall bLen (aCons (eVar 1) (aNil))) (aNil)) [some (.tup (rs.map tI)), some (.ref m.length), y2, y3, y4, some (.ref m2.length), some (.ref m3.length), none, none, none] m4).o _ _) _
    rw [w_rng1 e4 (by omega), v_o]
    refine nx_mono (w_find (rs := rs) F hN g4 (p4 _ _ q3) q4 (by omega) (by omega) (by omega)) ?_
    rintro e5 m7 ⟨⟨y7, y8, y9, rfl⟩, k1, fs, k2, k3⟩
    refine ⟨m2.length, fs, rfl, fun i c e => k1 i c (p4 _ _ (p3 _ _ (p2 _ _ e))) ?_, by omega, k2, k3⟩
    have := lt e
    simp
    omega
end Cl
set_option Elab.async false
set_option linter.all false
set_option maxRecDepth 100000
namespace Cl
open PySem PySem.Spec PyProof.Rows L2 Ab
theorem bools_t : ∀ n : Nat, boolsD (List.replicate n (.bl true)) = some (List.replicate n true)
  | 0 => rfl
  | n + 1 => by
    show (boolsD (List.replicate n (.bl true))).map (true :: ·) = _
    rw [bools_t n]; rfl
theorem v_allT {n k : Nat} {m : Mem} (h : m[n]? = some (.lst (List.replicate k (.bl true)))) : bAll true [.ref n] m = .ok (.bl true) m := by
  unfold bAll itemsD
  simp only [h, bools_t]
  simp
theorem w_allLc {a el : AE} {i : Nat} {e : Env'} {m : Mem} {ds : List D} (ha : a e m = .ok (.tup ds) m) (hl : ds.length < 1000) (hel : ∀ d ∈ ds, ∀ m', el ((wipeE e [i]).set i (some d)) m' = .ok (.bl true) m') :
    Ok (eCall (bAll true) (aCons (eLc (iE a) (gN i) (tYesA) el [i]) (aNil)) e m) fun d m' => d = .bl true ∧ Pre m m' := by
  have key := lcL_map (tg := gN i) (el := el) (gd := []) (env := wipeE e [i]) (p0 := m.length) (m0 := m ++ [Cell.lst []]) (fun m' _ => gd_nil) ds (List.replicate ds.length (.bl true)) (m ++ [Cell.lst []]) [] .refl (by simp) (fun j d x h1 h2 m' hk => by
    rw [List.getElem?_replicate] at h2
    split at h2
    · cases h2
      exact ⟨_, rfl, hel d (List.mem_of_getElem? h1) m'⟩
    · cases h2) new_get (by simp; omega)
  obtain ⟨_, m8, w1, w2, w3⟩ := ok_ex key
  have e1 : eLc (iE a) (gN i) (tYesA) el [i] e m = .ok (.ref m.length) m8 := by
    unfold eLc
    rw [w_iE, ha, v_bind, w_itT, v_bind, w1]
  have e2 : bAll true [.ref m.length] m8 = .ok (.bl true) m8 := v_allT (by simpa using w3)
  rw [v_call, v_cons, e1, v_bind, v_nil, v_bind, v_bind, e2]
  refine ⟨rfl, fun j c h => w2 _ _ (Pre.add _ _ h) ?_⟩
  have := (List.getElem?_eq_some_iff.mp h).1
  simp; omega
theorem betw {z lo hi : Int} (h1 : lo ≤ z) (h2 : z ≤ hi) (m : Mem) : f_is_between [.int z, .int lo, .int hi] m = .ok (.bl true) m := by
  rw [w_is_between (ty_i (m := m))]
  simp [between, h1, h2]
theorem enumD_enk (ds : List D) : enumD ds = enk 0 ds := rfl
theorem w_wrong_arrow {n : Nat} {arr : List (Nat × Nat)} {m : Mem} (h0 : 0 < arr.length) (h1 : arr.length ≤ 80) (hr : ∀ p ∈ arr, p.1 < n ∧ p.2 < n) : Ok (f_wrong_arrow [I n, .tup (arr.map pD)] m) fun d m' => d = .non ∧ Pre m m' := by
  unfold f_wrong_arrow afOf a_wrong_arrow
  have c1 : (1 : Int) ≤ ((arr.map pD).length : Int) := by simp; omega
  have c2 : ((arr.map pD).length : Int) ≤ 80 := by simp; omega
  have s1 : sIf (tOrr (tNt (tVal (eIsi "tuple" (eVar 1)))) (tNt (tVal (eChain dLe dLe (eC (.int 1)) (eCall bLen (aCons (eVar 1) (aNil))) (eC (.int 80)))))) (sRet (eCall mkTup (aCons (eC (.str "arrows")) (aNil)))) sSkip [some (I n), some (.tup (arr.map pD)), none, none, none] m = .nx [some (I n), some (.tup (arr.map pD)), none, none, none] m := by
    simp at c1 c2
    simp [c1, c2]
  show Ok ((sSeq (sIf (tOrr (tNt (tVal (eIsi "tuple" (eVar 1)))) (tNt (tVal (eChain dLe dLe (eC (.int 1)) (eCall bLen (aCons (eVar 1) (aNil))) (eC (.int 80)))))) (sRet (eCall mkTup (aCons (eC (.str "arrows")) (aNil)))) sSkip) _ [some (I n), some (.tup (arr.map pD)), none, none, none] m).f) _
  rw [v_seq, s1, v_nx, v_seq]
  refine seq_f ?_
  rw [w_for]
  show Nx (forL _ _ [] (enumD (arr.map pD)) [some (I n), some (.tup (arr.map pD)), none, none, none] m) _
  let Inv : List D → Env' → Mem → Prop := fun rest e' m' => ∃ (k : Nat) (b : List (Nat × Nat)) (y2 y3 : Option D), (∀ p ∈ b, p.1 < n ∧ p.2 < n) ∧ rest = enk k (b.map pD) ∧ e' = [some (I n), some (.tup (arr.map pD)), y2, y3, none] ∧ Pre m m'
  refine nx_mono (forL_go Inv ?_ (fun _ _ _ => gd_nil) _ _ _ ⟨0, arr, none, none, hr, enumD_enk _, rfl, .refl⟩) ?_
  · rintro d rest e1 m1 ⟨k, b, y2, y3, k1, k2, rfl, k3⟩
    cases b with
    | nil => cases k2
    | cons p b =>
      rw [List.map_cons, enk_cons] at k2
      cases k2
      refine ⟨gd_nil, [some (I n), some (.tup (arr.map pD)), some (.int (k : Int)), some (pD p), none], by simp, ?_⟩
      have hp := k1 p List.mem_cons_self
      obtain ⟨_, m2, w1, rfl, w2⟩ := ok_ex (w_allLc (a := eVar 3) (el := eCall f_is_between (aCons (eVar 4) (aCons (eC (.int 0)) (aCons (eOp dSub (eVar 0) (eC (.int 1))) (aNil))))) (i := 4) (e := [some (I n), some (.tup (arr.map pD)), some (.int (k : Int)), some (pD p), none]) (m := m1) (ds := [I p.1, I p.2]) rfl (by simp) (fun d hd m' => by
        have : ∃ z : Nat, d = I z ∧ z < n := by
          simp at hd
          rcases hd with rfl | rfl
          · exact ⟨_, rfl, hp.1⟩
          · exact ⟨_, rfl, hp.2⟩
        obtain ⟨z, rfl, hz⟩ := this
        have hb := betw (z := (z : Int)) (lo := 0) (hi := (n : Int) - 1) (by omega) (by omega) m'
        show (aCons (eVar 4) (aCons (eC (.int 0)) (aCons (eOp dSub (eVar 0) (eC (.int 1))) (aNil))) _ m').bind f_is_between = _
        exact hb))
      have hrow : f_is_row [pD p, .int 2] m1 = .ok (.bl true) m1 := by
        rw [show pD p = .tup [I p.1, I p.2] from rfl, w_is_row]; rfl
      rw [v_sif]
      have ht : (tOrr (tNt (tVal (eCall f_is_row (aCons (eVar 3) (aCons (eC (.int 2)) (aNil)))))) (tNt (tVal (eCall (bAll true) (aCons (eLc (iE (eVar 3)) (gN 4) (tYesA) (eCall f_is_between (aCons (eVar 4) (aCons (eC (.int 0)) (aCons (eOp dSub (eVar 0) (eC (.int 1))) (aNil))))) [4]) (aNil)))))) [some (I n), some (.tup (arr.map pD)), some (.int (k : Int)), some (pD p), none] m1 = .ok false m2 := by
        rw [v_or, v_nt, v_val, v_call, v_cons, v_vs, v_vs, v_vs, v_v0 (z := none), v_bind, v_cons, v_c, v_bind, v_nil, v_bind, v_bind, v_bind, hrow, v_bind, v_asB, v_bind, v_bind]
        show (tNt _ _ m1) = _
        rw [v_nt, v_val, w1, v_bind, v_asB, v_bind]
        rfl
      rw [ht, v_o]
      exact ⟨k + 1, b, _, _, fun q hq => k1 q (List.mem_cons_of_mem _ hq), rfl, rfl, k3.trans w2⟩
  · rintro e1 m1 ⟨k, b, y2, y3, k1, k2, rfl, k3⟩
    exact ⟨rfl, k3⟩
end Cl
set_option Elab.async false
set_option linter.all false
set_option maxRecDepth 100000
namespace Cl
open PySem PySem.Spec PyProof.Rows L2 Ab
/-- a dict of places, all True -/
def rK (l : List Nat) : List (Key × D) := l.map fun (e : Nat) => ((Sum.inl (e : Int) : Key), D.bl true)
def addm (l : List Nat) (x : Nat) : List Nat := if x ∈ l then l else l ++ [x]
theorem rK_any (l : List Nat) (x : Nat) : ((rK l).any fun kv => decide (kv.1 = (Sum.inl (x : Int) : Key))) = decide (x ∈ l) := by
  induction l with
  | nil => simp [rK]
  | cons a l ih =>
    unfold rK at ih ⊢
    rw [List.map_cons, List.any_cons, ih]
    by_cases z : a = x
    · subst z; simp
    · have : ¬ ((Sum.inl (a : Int) : Key) = .inl (x : Int)) := fun q => z (by have := Sum.inl.inj q; omega)
      have z2 : ¬ x = a := fun q => z q.symm
      simp [this, z2]
theorem rK_val (l : List Nat) (x : Nat) : (valD (rK l) (.inl (x : Int))).isSome = decide (x ∈ l) := by
  rw [← rK_any]
  unfold valD
  rw [Option.isSome_map, Bool.eq_iff_iff, List.find?_isSome, List.any_eq_true]
theorem rK_put (l : List Nat) (x : Nat) : putD (rK l) (.inl (x : Int)) (.bl true) = rK (addm l x) := by
  unfold putD addm
  rw [rK_any]
  by_cases h : x ∈ l
  · rw [if_pos (by simpa using h), if_pos h]
    unfold rK
    rw [List.map_map]
    refine List.map_congr_left fun a _ => ?_
    simp only [Function.comp]
    split <;> rfl
  · rw [if_neg (by simpa using h), if_neg h]
    simp [rK]
theorem addm_nd {l : List Nat} {x : Nat} (h : l.Nodup) : (addm l x).Nodup := by
  unfold addm
  split
  · exact h
  · rename_i z
    rw [List.nodup_append]
    exact ⟨h, by simp, fun a ha b hb q => z (by simp at hb; rw [← hb, ← q]; exact ha)⟩
theorem addm_mem {l : List Nat} {x y : Nat} : y ∈ addm l x ↔ y ∈ l ∨ y = x := by
  unfold addm
  split
  · rename_i h
    exact ⟨.inl, fun z => by rcases z with z | z; exact z; exact z ▸ h⟩
  · simp
theorem addm_len {l : List Nat} {x : Nat} : l.length ≤ (addm l x).length := by unfold addm; split <;> simp
theorem addm_new {l : List Nat} {x : Nat} (h : x ∉ l) : (addm l x).length = l.length + 1 := by unfold addm; rw [if_neg h]; simp
noncomputable def wHang : AS := sIf (tVal (eOp dNe (eOp dIn (eVar 4) (eVar 2)) (eOp dIn (eVar 5) (eVar 2))))
    (sSeq (sAsg (eC (.bl true)) (gS dSet (eVar 2) (eVar 4)))
    (sSeq (sAsg (eC (.bl true)) (gS dSet (eVar 2) (eVar 5)))
    (sAsg (eC (.bl true)) (gN 3))))
    (sSkip)
theorem v_in {n : Nat} {m : Mem} {l : List Nat} {e : Nat} (h : m[n]? = some (.dic (rK l))) : dIn (I e) (.ref n) m = .ok (.bl (decide (e ∈ l))) m := by
  show dIn0 false (I e) (.ref n) m = _
  unfold dIn0
  simp only [h]
  show R.ok (D.bl (xor false (valD (rK l) (.inl (e : Int))).isSome)) m = _
  rw [Bool.false_xor, rK_val]
theorem w_neB {m : Mem} {a b : Bool} : dNe (.bl a) (.bl b) m = .ok (.bl (!decide (a = b))) m := by
  unfold dNe
  rw [show toP m DEEP (.bl a) = some (.bool a) from rfl, show toP m DEEP (.bl b) = some (.bool b) from rfl]
  dsimp only
  rw [if_pos ⟨rfl, rfl⟩]
  cases a <;> cases b <;> rfl
/-- one round over all arrows -/
theorem w_hangs {P kr : Nat} {arr : List (Nat × Nat)} {m : Mem} {R0 R1 : D} {x4 x5 : Option D} {l : List Nat} (hr : ∀ p ∈ arr, p.1 < P ∧ p.2 < P) (hP : P ≤ 100) (hm : m[kr]? = some (.dic (rK l))) (hl : l.Nodup) (hlt : ∀ e ∈ l, e < P) :
    Nx (forL (gT 2 (gsCons (gN 4) (gsCons (gN 5) (gsNil)))) wHang [] (arr.map pD) [some R0, some R1, some (.ref kr), some (.bl false), x4, x5] m) fun e' m' => Kp [kr] m m' ∧ ∃ (l' : List Nat) (fl : Bool) (y4 y5 : Option D), e' = [some R0, some R1, some (.ref kr), some (.bl fl), y4, y5] ∧ m'[kr]? = some (.dic (rK l')) ∧ l'.Nodup ∧ (∀ e ∈ l', e < P) ∧ (∀ e ∈ l, e ∈ l') ∧ (fl = true → l.length < l'.length) ∧ (fl = false → l' = l ∧ ∀ p ∈ arr, (p.1 ∈ l ↔ p.2 ∈ l)) := by
  let Inv : List D → Env' → Mem → Prop := fun rest e' m' => ∃ (a b : List (Nat × Nat)) (l' : List Nat) (fl : Bool) (y4 y5 : Option D), arr = a ++ b ∧ rest = b.map pD ∧ Kp [kr] m m' ∧ e' = [some R0, some R1, some (.ref kr), some (.bl fl), y4, y5] ∧ m'[kr]? = some (.dic (rK l')) ∧ l'.Nodup ∧ (∀ e ∈ l', e < P) ∧ (∀ e ∈ l, e ∈ l') ∧ (fl = true → l.length < l'.length) ∧ (fl = false → l' = l ∧ ∀ p ∈ a, (p.1 ∈ l ↔ p.2 ∈ l))
  refine nx_mono (forL_go (b := wHang) Inv ?_ (fun _ _ _ => gd_nil) _ _ _ ⟨[], arr, l, false, x4, x5, rfl, rfl, .refl, rfl, hm, hl, hlt, fun _ h => h, fun z => (by cases z), fun _ => ⟨rfl, fun p hp => (by cases hp)⟩⟩) ?_
  · rintro d rest e1 m1 ⟨a, b, l', fl, y4, y5, h1, h2, h3, rfl, h4, h5, h6, h7, h8, h9⟩
    cases b with
    | nil => cases h2
    | cons p b =>
      rw [List.map_cons] at h2
      cases h2
      refine ⟨gd_nil, [some R0, some R1, some (.ref kr), some (.bl fl), some (I p.1), some (I p.2)], by simp [pD], ?_⟩
      have hp := hr p (by rw [h1]; simp)
      have hll : l'.length ≤ P := by
        have := h5.length_le_of_subset (l₂ := List.range P) (fun e he => List.mem_range.mpr (h6 e he))
        simpa using this
      by_cases z : decide (p.1 ∈ l') = decide (p.2 ∈ l')
      · simp only [wHang, v_sif, v_val, v_op, v_vs, v_v0 (z := none), v_bind, v_in h4, w_neB, z, v_asB, v_o]
        simp
        refine ⟨a ++ [p], b, l', fl, _, _, by simp [h1], rfl, h3, rfl, h4, h5, h6, h7, h8, fun q => ?_⟩
        obtain ⟨q1, q2⟩ := h9 q
        refine ⟨q1, fun x hx => ?_⟩
        rcases List.mem_append.mp hx with w | w
        · exact q2 x w
        · rw [List.mem_singleton.mp w, ← q1]
          exact decide_eq_decide.mp z
      · have s1 : dSet (.ref kr) (I p.1) (.bl true) m1 = .ok () (m1.set kr (.dic (rK (addm l' p.1)))) := by
          rw [v_setD h4 (by simp [rK]; omega), rK_put]
        have g2 : (m1.set kr (.dic (rK (addm l' p.1))))[kr]? = some (.dic (rK (addm l' p.1))) := get_set h4
        have hal : (addm l' p.1).length ≤ l'.length + 1 := by unfold addm; split <;> simp
        have s2 : dSet (.ref kr) (I p.2) (.bl true) (m1.set kr (.dic (rK (addm l' p.1)))) = .ok () ((m1.set kr (.dic (rK (addm l' p.1)))).set kr (.dic (rK (addm (addm l' p.1) p.2)))) := by
          rw [v_setD g2 (by simp [rK]; omega), rK_put]
        simp only [wHang, v_sif, v_val, v_op, v_vs, v_v0 (z := none), v_bind, v_in h4, w_neB, v_asB, v_o]
        simp [z, s1, s2]
        refine ⟨a ++ [p], b, addm (addm l' p.1) p.2, true, _, _, by simp [h1], rfl, h3.trans ?_, rfl, ?_, addm_nd (addm_nd h5), fun e he => ?_, fun e he => addm_mem.mpr (.inl (addm_mem.mpr (.inl (h7 e he)))), fun _ => ?_, fun q => by cases q⟩
        · exact Kp.set (by simp)
        · exact get_set h4
        · rcases addm_mem.mp he with w | w
          · rcases addm_mem.mp w with w | w
            · exact h6 e w
            · rw [w]; exact hp.1
          · rw [w]; exact hp.2
        · have hb : l.length ≤ l'.length := by
            cases fl with
            | true => have := h8 rfl; omega
            | false => rw [(h9 rfl).1]; omega
          by_cases w : p.1 ∈ l'
          · have w2 : p.2 ∉ l' := fun q => z (by simp [w, q])
            have e1 : addm l' p.1 = l' := by unfold addm; rw [if_pos w]
            rw [e1, addm_new w2]; omega
          · have := addm_new w
            have := addm_len (l := addm l' p.1) (x := p.2)
            omega
  · rintro e1 m1 ⟨a, b, l', fl, y4, y5, h1, h2, h3, rfl, h4, h5, h6, h7, h8, h9⟩
    have : b = [] := by cases b with | nil => rfl | cons x b => cases h2
    subst this
    simp at h1
    subst h1
    exact ⟨h3, l', fl, y4, y5, rfl, h4, h5, h6, h7, h8, h9⟩
theorem w_hang_together {P : Nat} {arr : List (Nat × Nat)} {m : Mem} (hr : ∀ p ∈ arr, p.1 < P ∧ p.2 < P) (hP : P ≤ 100) (h0 : 0 < P) (hc : Conn arr P) : Ok (f_hang_together [I P, .tup (arr.map pD)] m) fun d m' => d = .bl true ∧ Pre m m' := by
  unfold f_hang_together afOf a_hang_together
  obtain ⟨m1, hm1⟩ : ∃ m1, m1 = m ++ [Cell.dic (rK [0])] := ⟨_, rfl⟩
  have p1 : Pre m m1 := by rw [hm1]; exact .add
  have q1 : m1[m.length]? = some (.dic (rK [0])) := by rw [hm1]; exact new_get
  have s1 : sAsg (eDisp (dpCons (eC (.int 0)) (eC (.bl true)) (dpNil))) (gN 2) [some (I P), some (.tup (arr.map pD)), none, none, none, none] m = .nx [some (I P), some (.tup (arr.map pD)), some (.ref m.length), none, none, none] m1 := by
    have : eDisp (dpCons (eC (.int 0)) (eC (.bl true)) (dpNil)) [some (I P), some (.tup (arr.map pD)), none, none, none, none] m = .ok (.ref m.length) m1 := by
      unfold eDisp dpCons dpNil
      simp [keyD]
      rw [hm1]
      rfl
    rw [v_asg, this, v_o, v_gN, v_o]; rfl
  show Ok ((sSeq (sAsg (eDisp (dpCons (eC (.int 0)) (eC (.bl true)) (dpNil))) (gN 2)) _ [some (I P), some (.tup (arr.map pD)), none, none, none, none] m).f) _
  rw [v_seq, s1, v_nx, v_seq]
  show Ok (((O.nx [some (I P), some (.tup (arr.map pD)), some (.ref m.length), some (.bl true), none, none] m1).seq _).f) _
  rw [v_nx, v_seq]
  refine seq_f ?_
  let Inv : Nat → Env' → Mem → Prop := fun n e' m' => ∃ (l : List Nat) (fl : Bool) (y4 y5 : Option D), e' = [some (I P), some (.tup (arr.map pD)), some (.ref m.length), some (.bl fl), y4, y5] ∧ Kp [m.length] m1 m' ∧ m'[m.length]? = some (.dic (rK l)) ∧ l.Nodup ∧ (∀ e ∈ l, e < P) ∧ 0 ∈ l ∧ (if fl = true then n = 2 * (P - l.length) + 1 else n = 0 ∧ ∀ p ∈ arr, (p.1 ∈ l ↔ p.2 ∈ l))
  refine while_nx Inv ?_ (n := 2 * (P - 1) + 1) ⟨[0], true, none, none, rfl, .refl, q1, by simp, fun e he => by simp at he; omega, by simp, by simp⟩
  rintro n e' m2 ⟨l, fl, y4, y5, rfl, k1, k2, k3, k4, k5, k6⟩
  have hll : l.length ≤ P := by
    have := k3.length_le_of_subset (l₂ := List.range P) (fun e he => List.mem_range.mpr (k4 e he))
    simpa using this
  cases fl with
  | false =>
    left
    rw [if_neg Bool.false_ne_true] at k6
    refine ⟨m2, by simp, ?_⟩
    have hall : ∀ x, x < P → x ∈ l := fun x hx => hc (fun x => x ∈ l) k5 k6.2 x hx
    have hperm : l.Perm (List.range P) := (List.perm_ext_iff_of_nodup k3 List.nodup_range).mpr fun a => by
      rw [List.mem_range]; exact ⟨k4 a, hall a⟩
    have hlen : bLen [.ref m.length] m2 = .ok (I P) m2 := by
      rw [v_lenD k2]
      have := hperm.length_eq
      simp at this
      simp [rK, I, this]
    have he : dEq (I P) (I P) m2 = .ok (.bl true) m2 := by
      rw [show dEq (I P) (I P) m2 = _ from w_eqI]; simp
    simp [hlen, he]
    exact fun i c h => k1 _ _ (p1 _ _ h) (by have := (List.getElem?_eq_some_iff.mp h).1; simp; omega)
  | true =>
    right
    rw [if_pos rfl] at k6
    obtain ⟨e3, m3, w1, w2⟩ : ∃ e3 m3, forL (gT 2 (gsCons (gN 4) (gsCons (gN 5) (gsNil)))) wHang [] (arr.map pD) [some (I P), some (.tup (arr.map pD)), some (.ref m.length), some (.bl false), y4, y5] m2 = .nx e3 m3 ∧ _ := by
      have := w_hangs (R0 := I P) (R1 := .tup (arr.map pD)) (x4 := y4) (x5 := y5) hr hP k2 k3 k4
      cases h : forL (gT 2 (gsCons (gN 4) (gsCons (gN 5) (gsNil)))) wHang [] (arr.map pD) [some (I P), some (.tup (arr.map pD)), some (.ref m.length), some (.bl false), y4, y5] m2 with
      | nx e3 m3 => rw [h] at this; exact ⟨e3, m3, rfl, this⟩
      | _ => rw [h] at this; exact this.elim
    obtain ⟨u1, l', fl', z4, z5, rfl, u2, u3, u4, u5, u6, u7⟩ := w2
    refine ⟨m2, by simp, if fl' = true then 2 * (P - l'.length) + 1 else 0, ?_, ?_⟩
    · have hll' : l'.length ≤ P := by
        have := u3.length_le_of_subset (l₂ := List.range P) (fun e he => List.mem_range.mpr (u4 e he))
        simpa using this
      cases fl' with
      | true => have := u6 rfl; simp; omega
      | false => simp; omega
    · rw [v_seq]
      show Nx ((O.nx [some (I P), some (.tup (arr.map pD)), some (.ref m.length), some (.bl false), y4, y5] m2).seq _) _
      rw [v_nx, w_for]
      show Nx (forL (gT 2 (gsCons (gN 4) (gsCons (gN 5) (gsNil)))) wHang [] (arr.map pD) [some (I P), some (.tup (arr.map pD)), some (.ref m.length), some (.bl false), y4, y5] m2) _
      rw [w1]
      refine ⟨l', fl', z4, z5, rfl, k1.trans u1, u2, u3, u4, u5 0 k5, ?_⟩
      cases fl' with
      | true => simp
      | false =>
        obtain ⟨v1, v2⟩ := u7 rfl
        rw [v1]
        simpa using v2
end Cl
set_option Elab.async false
set_option linter.all false
set_option maxRecDepth 100000
namespace Cl
open PySem PySem.Spec PyProof.Rows L2 Ab
theorem lcL_go {tg : AG} {el : AE} {gd : Gd} {env : Env'} {p0 : Nat} (Inv : List D → Mem → Prop) (hs : ∀ d r m, Inv (d :: r) m → gd.Ok m ∧ ∃ e2, tg d env m = .ok e2 m ∧ Ok (el e2 m) fun x m4 => ∃ acc, m4[p0]? = some (.lst acc) ∧ acc.length < 2 ^ 24 ∧ Inv r (m4.set p0 (.lst (acc ++ [x]))))
    (hf : ∀ m, Inv [] m → gd.Ok m) : ∀ (ds : List D) (m : Mem), Inv ds m → Ok (lcL tg tYesA el gd env p0 ds m) fun _ m' => Inv [] m'
  | [], m, h => by
    unfold lcL
    rw [if_pos (hf m h)]
    exact h
  | d :: r, m, h => by
    obtain ⟨h1, e2, h2, h3⟩ := hs d r m h
    obtain ⟨x, m4, h4, acc, h5, h6, h7⟩ := ok_ex h3
    unfold lcL
    rw [if_pos h1, h2]
    dsimp only [tYesA]
    rw [if_pos rfl, h4]
    dsimp only
    rw [h5]
    dsimp only
    rw [if_pos (show acc.length < sizeLine from h6)]
    exact lcL_go Inv hs hf r _ h7
/-- the ends at a place, of the first k arrows -/
def ed (arr : List (Nat × Nat)) (k p : Nat) : List Nat := (List.range (2 * k)).filter fun e => decide (pl arr e = p)
theorem ed_succ {arr : List (Nat × Nat)} {k p : Nat} {q : Nat × Nat} (h : arr[k]? = some q) : ed arr (k + 1) p = ed arr k p ++ (if q.1 = p then [2 * k] else []) ++ (if q.2 = p then [2 * k + 1] else []) := by
  have e0 : pl arr (2 * k) = q.1 := by
    unfold pl
    rw [show 2 * k / 2 = k by omega, h]
    simp
  have e1 : pl arr (2 * k + 1) = q.2 := by
    unfold pl
    rw [show (2 * k + 1) / 2 = k by omega, h]
    have : ¬ (2 * k + 1) % 2 = 0 := by omega
    simp [this]
  unfold ed
  rw [show 2 * (k + 1) = 2 * k + 1 + 1 by omega, List.range_succ, List.range_succ, List.filter_append, List.filter_append]
  congr 1
  · congr 1
    simp only [List.filter_cons, List.filter_nil, e0]
    by_cases z : q.1 = p <;> simp [z]
  · simp only [List.filter_cons, List.filter_nil, e1]
    by_cases z : q.2 = p <;> simp [z]
/-- lists at P places from b on -/
def Rows (m : Mem) (b P : Nat) (f : Nat → List Nat) : Prop := ∀ p, p < P → m[b + p]? = some (.lst ((f p).map I))
def refs (b P : Nat) : List D := (List.range P).map fun p => D.ref (b + p)
theorem refs_at {b P p : Nat} (h : p < P) : atI (refs b P) (p : Int) = some (.ref (b + p)) := atI_nat (by unfold refs; rw [List.getElem?_map, List.getElem?_range h]; rfl)
theorem w_empties {P : Nat} {e : Env'} {m : Mem} {x : AA} (hP : P < 1000) (hx : x e m = .ok [I P] m) : Ok (eLc (iA rng1 x) (gN 6) (tYesA) (eCall mkLst (aNil)) [6] e m) fun d m' => d = .ref m.length ∧ Pre m m' ∧ m'[m.length]? = some (.lst (refs (m.length + 1) P)) ∧ Rows m' (m.length + 1) P fun _ => [] := by
  let Inv : List D → Mem → Prop := fun rest m' => ∃ j, rest.length + j = P ∧ m'.length = m.length + 1 + j ∧ Pre m m' ∧ m'[m.length]? = some (.lst (refs (m.length + 1) j)) ∧ Rows m' (m.length + 1) j fun _ => []
  have key := lcL_go (tg := gN 6) (el := eCall mkLst (aNil)) (gd := []) (env := wipeE e [6]) (p0 := m.length) Inv (fun d r m1 h => by
    obtain ⟨j, h1, h2, h3, h4, h5⟩ := h
    refine ⟨gd_nil, _, rfl, ?_⟩
    have hj : j < P := by simp at h1; omega
    rw [v_call, v_nil, v_bind, mk0]
    have p1 : Pre m1 (m1 ++ [Cell.lst []]) := .add
    refine ⟨refs (m.length + 1) j, p1 _ _ h4, by unfold refs; simp; omega, j + 1, by simp at h1; omega, by simp; omega, fun i c q => ?_, ?_, fun p hp => ?_⟩
    · rw [List.getElem?_set_ne (by have := (List.getElem?_eq_some_iff.mp q).1; omega)]
      exact p1 _ _ (h3 _ _ q)
    · rw [get_set (p1 _ _ h4)]
      unfold refs
      rw [List.range_succ, List.map_append, h2]
      rfl
    · rw [List.getElem?_set_ne (by omega)]
      by_cases z : p < j
      · exact p1 _ _ (h5 p z)
      · have : p = j := by omega
        subst this
        rw [show m.length + 1 + p = m1.length by omega]
        exact new_get) (fun _ _ => gd_nil) ((List.range P).map fun (i : Nat) => .int (i : Int)) (m ++ [.lst []]) ⟨0, by simp, by simp, .add, by rw [new_get]; rfl, fun p hp => by omega⟩
  obtain ⟨_, m8, w1, j, w2, w3, w4, w5, w6⟩ := ok_ex key
  simp at w2
  subst w2
  unfold eLc
  rw [w_rng1 hx hP, v_bind, w1]
  exact ⟨rfl, w4, w5, w6⟩
theorem w_emptiesE {P : Nat} {e : Env'} {m : Mem} {x : AA} (e2 : Env') (he : e2 = e) (hP : P < 1000) (hx : x e m = .ok [I P] m) : ∃ m', eLc (iA rng1 x) (gN 6) (tYesA) (eCall mkLst (aNil)) [6] e2 m = .ok (.ref m.length) m' ∧ Pre m m' ∧ m'[m.length]? = some (.lst (refs (m.length + 1) P)) ∧ Rows m' (m.length + 1) P fun _ => [] := by
  subst he
  obtain ⟨d, m1, e1, k2, k3⟩ := ok_ex (w_empties hP hx)
  subst k2
  exact ⟨m1, e1, k3⟩
noncomputable def wEnd : AS := sSeq (sExp (eMt isL mAppend (eOp dIx (eVar 2) (eVar 4)) (aCons (eOp dMul (eC (.int 2)) (eVar 3)) (aNil))))
    (sExp (eMt isL mAppend (eOp dIx (eVar 2) (eVar 5)) (aCons (eOp dAdd (eOp dMul (eC (.int 2)) (eVar 3)) (eC (.int 1))) (aNil))))
theorem w_ends {P : Nat} {arr : List (Nat × Nat)} {m : Mem} (hr : ∀ p ∈ arr, p.1 < P ∧ p.2 < P) (hP : P < 1000) (hl : arr.length ≤ 100) : Ok (f_ends_by_place [I P, .tup (arr.map pD)] m) fun d m' => d = .ref m.length ∧ Pre m m' ∧ m'[m.length]? = some (.lst (refs (m.length + 1) P)) ∧ Rows m' (m.length + 1) P (ed arr arr.length) := by
  obtain ⟨E, hE⟩ : ∃ E : Env', E = [some (I P), some (.tup (arr.map pD)), none, none, none, none, none] := ⟨_, rfl⟩
  have hv : eVar 0 E m = .ok (I P) m := v_var (by rw [hE]; rfl)
  have hx : (aCons (eVar 0) aNil) E m = .ok [I P] m := by
    rw [v_cons, hv, v_bind, v_nil, v_bind]
  obtain ⟨m1, e1, p1, q1, r1⟩ := w_emptiesE E rfl hP hx
  rw [hE] at e1
  have s1 : sAsg (eLc (iA rng1 (aCons (eVar 0) (aNil))) (gN 6) (tYesA) (eCall mkLst (aNil)) [6]) (gN 2) [some (I P), some (.tup (arr.map pD)), none, none, none, none, none] m = .nx [some (I P), some (.tup (arr.map pD)), some (.ref m.length), none, none, none, none] m1 := by
    rw [v_asg, e1, v_o, v_gN, v_o]; rfl
  unfold f_ends_by_place afOf a_ends_by_place
  show Ok ((sSeq (sAsg (eLc (iA rng1 (aCons (eVar 0) (aNil))) (gN 6) (tYesA) (eCall mkLst (aNil)) [6]) (gN 2)) _ [some (I P), some (.tup (arr.map pD)), none, none, none, none, none] m).f) _
  rw [v_seq, s1, v_nx, v_seq]
  refine seq_f ?_
  rw [w_for]
  show Nx (forL (gT 2 (gsCons (gN 3) (gsCons (gT 2 (gsCons (gN 4) (gsCons (gN 5) (gsNil)))) (gsNil)))) wEnd [] (enumD (arr.map pD)) [some (I P), some (.tup (arr.map pD)), some (.ref m.length), none, none, none, none] m1) _
  let Inv : List D → Env' → Mem → Prop := fun rest e' m' => ∃ (a b : List (Nat × Nat)) (y3 y4 y5 : Option D), arr = a ++ b ∧ rest = enk a.length (b.map pD) ∧ e' = [some (I P), some (.tup (arr.map pD)), some (.ref m.length), y3, y4, y5, none] ∧ Pre m m' ∧ m'[m.length]? = some (.lst (refs (m.length + 1) P)) ∧ Rows m' (m.length + 1) P (ed arr a.length)
  have t1 : ∀ (w : Int) (m : Mem), dMul (.int 2) (.int w) m = .ok (.int (2 * w)) m := fun w m => v_mul (.inl (by decide))
  refine nx_mono (forL_go (b := wEnd) Inv ?_ (fun _ _ _ => gd_nil) _ _ _ ⟨[], arr, none, none, none, rfl, enumD_enk _, rfl, p1, q1, fun p hp => r1 p hp⟩) ?_
  · rintro d rest e2 m2 ⟨a, b, y3, y4, y5, h1, h2, rfl, h3, h4, h5⟩
    cases b with
    | nil => cases h2
    | cons p b =>
      rw [List.map_cons, enk_cons] at h2
      cases h2
      refine ⟨gd_nil, [some (I P), some (.tup (arr.map pD)), some (.ref m.length), some (.int (a.length : Int)), some (I p.1), some (I p.2), none], by simp [pD], ?_⟩
      have hp := hr p (by rw [h1]; simp)
      have hk : arr[a.length]? = some p := by rw [h1]; simp
      have hal : a.length < 100 := by have := hl; rw [h1] at this; simp at this; omega
      have edl : ∀ q, (ed arr a.length q).length ≤ 200 := fun q => by
        have := List.length_filter_le (fun e => decide (pl arr e = q)) (List.range (2 * a.length))
        rw [List.length_range] at this
        unfold ed
        omega
      -- the tail's list, then the head's
      have x1 : dIx (.ref m.length) (I p.1) m2 = .ok (.ref (m.length + 1 + p.1)) m2 := v_ixL h4 (refs_at hp.1)
      have x2 : mAppend (.ref (m.length + 1 + p.1)) [.int (2 * (a.length : Int))] m2 = .ok .non (m2.set (m.length + 1 + p.1) (.lst ((ed arr a.length p.1).map I ++ [.int (2 * (a.length : Int))]))) := v_append (h5 _ hp.1) (by have := edl p.1; simp; omega)
      obtain ⟨m3, hm3⟩ : ∃ m3, m3 = m2.set (m.length + 1 + p.1) (.lst ((ed arr a.length p.1).map I ++ [.int (2 * (a.length : Int))])) := ⟨_, rfl⟩
      have r3 : Rows m3 (m.length + 1) P fun q => ed arr a.length q ++ (if p.1 = q then [2 * a.length] else []) := fun q hq => by
        show m3[m.length + 1 + q]? = some (.lst ((ed arr a.length q ++ (if p.1 = q then [2 * a.length] else [])).map I))
        rw [hm3]
        by_cases z : p.1 = q
        · subst z
          rw [get_set (h5 _ hq), if_pos rfl]
          simp [I]
        · rw [List.getElem?_set_ne (by omega), if_neg z, h5 q hq]; simp
      have g3 : m3[m.length]? = some (.lst (refs (m.length + 1) P)) := by rw [hm3, List.getElem?_set_ne (by omega)]; exact h4
      have x3 : dIx (.ref m.length) (I p.2) m3 = .ok (.ref (m.length + 1 + p.2)) m3 := v_ixL g3 (refs_at hp.2)
      have x4 : mAppend (.ref (m.length + 1 + p.2)) [.int (2 * (a.length : Int) + 1)] m3 = .ok .non (m3.set (m.length + 1 + p.2) (.lst ((ed arr a.length p.2 ++ (if p.1 = p.2 then [2 * a.length] else [])).map I ++ [.int (2 * (a.length : Int) + 1)]))) := v_append (r3 _ hp.2) (by have := edl p.2; split <;> simp <;> omega)
      rw [← hm3] at x2
      simp only [wEnd, v_seq, v_exp, w_mt, v_op, v_vs, v_v0 (z := none), v_bind, x1, w_isL (h5 _ hp.1), if_true, v_cons, v_c, t1, v_nil, x2, v_o, v_nx, x3, w_isL (r3 _ hp.2), v_add, x4]
      simp
      refine ⟨a ++ [p], b, _, _, _, by simp [h1], by simp, rfl, fun i c q => ?_, ?_, fun q hq => ?_⟩
      · have := (List.getElem?_eq_some_iff.mp q).1
        rw [List.getElem?_set_ne (by omega), hm3, List.getElem?_set_ne (by omega)]
        exact h3 _ _ q
      · rw [List.getElem?_set_ne (by omega)]; exact g3
      · rw [show (a ++ [p]).length = a.length + 1 by simp, ed_succ hk]
        by_cases z : p.2 = q
        · subst z
          have := get_set (c := .lst ((ed arr a.length p.2 ++ (if p.1 = p.2 then [2 * a.length] else [])).map I ++ [.int (2 * (a.length : Int) + 1)])) (r3 _ hp.2)
          rw [if_pos rfl]
          simp [I] at this ⊢
          exact this
        · rw [List.getElem?_set_ne (by omega), if_neg z, r3 q hq]; simp
  · rintro e2 m2 ⟨a, b, y3, y4, y5, h1, h2, rfl, h3, h4, h5⟩
    have hb : b = [] := by cases b with | nil => rfl | cons p b => rw [List.map_cons, enk_cons] at h2; cases h2
    subst hb
    simp at h1
    subst h1
    exact ⟨rfl, h3, h4, h5⟩
end Cl
set_option Elab.async false
set_option linter.all false
set_option maxRecDepth 100000
namespace Cl
open PySem PySem.Spec PyProof.Rows L2 Ab
theorem flat_at : ∀ {rs : List (List Nat)} {i j : Nat} {r r' : List Nat} {e : Nat}, rs.flatten.Nodup → rs[i]? = some r → rs[j]? = some r' → e ∈ r → e ∈ r' → i = j
  | [], i, j, r, r', e, _, h1, _, _, _ => by simp at h1
  | a :: rs, i, j, r, r', e, hn, h1, h2, h3, h4 => by
    rw [List.flatten_cons, List.nodup_append] at hn
    obtain ⟨n1, n2, n3⟩ := hn
    cases i with
    | zero =>
      cases j with
      | zero => rfl
      | succ j =>
        simp at h1 h2
        subst h1
        exact absurd rfl (n3 e h3 e (List.mem_flatten.mpr ⟨r', List.mem_of_getElem? h2, h4⟩))
    | succ i =>
      cases j with
      | zero =>
        simp at h1 h2
        subst h2
        exact absurd rfl (n3 e h4 e (List.mem_flatten.mpr ⟨r, List.mem_of_getElem? h1, h3⟩))
      | succ j =>
        simp at h1 h2
        rw [flat_at n2 h1 h2 h3 h4]
theorem ed_row {arr : List (Nat × Nat)} {rs : List (List Nat)} (g : G arr rs) {k : Nat} {r : List Nat} (h : rs[k]? = some r) : r.Perm (ed arr arr.length k) := by
  obtain ⟨rims, F, hF⟩ := g.flat
  have hnr : r.Nodup := Ch.flat_nd F.nd (List.mem_of_getElem? h)
  have hne : (ed arr arr.length k).Nodup := List.Pairwise.filter _ List.nodup_range
  refine (List.perm_ext_iff_of_nodup hnr hne).mpr fun e => ?_
  unfold ed
  rw [List.mem_filter, List.mem_range, decide_eq_true_eq]
  constructor
  · intro he
    have hlt : e < 2 * arr.length := List.mem_range.mp (F.rN.mem_iff.mp (List.mem_flatten.mpr ⟨r, List.mem_of_getElem? h, he⟩))
    obtain ⟨r', h1, h2⟩ := g.at' e hlt
    exact ⟨hlt, flat_at F.nd h1 h h2 he⟩
  · rintro ⟨h1, h2⟩
    obtain ⟨r', h3, h4⟩ := g.at' e h1
    rw [h2, h] at h3
    cases h3
    exact h4
theorem sort_ed {arr : List (Nat × Nat)} {rs : List (List Nat)} (g : G arr rs) {k : Nat} {r : List Nat} (h : rs[k]? = some r) : (sortI (r.map fun (n : Nat) => (n : Int))).map D.int = (ed arr arr.length k).map I := by
  have hp := (sortI_perm (r.map fun (n : Nat) => (n : Int))).trans ((ed_row g h).map fun (n : Nat) => (n : Int))
  have s1 := sortI_sorted (r.map fun (n : Nat) => (n : Int))
  have s2 : ((ed arr arr.length k).map fun (n : Nat) => (n : Int)).Pairwise (· ≤ ·) := by
    rw [List.pairwise_map]
    have : (ed arr arr.length k).Pairwise (· < ·) := List.Pairwise.filter _ List.pairwise_lt_range
    exact this.imp fun {a b} q => by omega
  have := List.Perm.eq_of_pairwise (fun a b _ _ h1 h2 => Int.le_antisymm h1 h2) s1 s2 hp
  rw [this, List.map_map]
  rfl
end Cl
set_option Elab.async false
set_option linter.all false
set_option maxRecDepth 100000
namespace Cl
open PySem PySem.Spec PyProof.Rows L2 Ab
theorem eqvAll_refl : ∀ l : List Nat, PyData.eqvAll (l.map pI) (l.map pI) = true
  | [] => by simp [PyData.eqvAll]
  | x :: l => by
    have := eqvAll_refl l
    have h := eqvI x x
    simp at h
    simp [PyData.eqvAll, h, this]
theorem v_neSame {m : Mem} {a b : Nat} {l : List Nat} (h1 : m[a]? = some (.lst (l.map I))) (h2 : m[b]? = some (.lst (l.map I))) : dNe (.ref a) (.ref b) m = .ok (.bl false) m := by
  unfold dNe
  rw [toP_lst h1, toP_lst h2]
  dsimp only
  rw [if_pos ⟨shapedL l, shapedL l⟩]
  have : PyData.eqv (.list (l.map pI)) (.list (l.map pI)) = true := by
    rw [PyData.eqv]; exact eqvAll_refl l
  rw [this]; rfl
theorem w_are_whole (r : List Nat) (hr : r.length < 1000) (m : Mem) : Ok (f_are_whole [tI r] m) fun d m' => d = .bl true ∧ Pre m m' := by
  unfold f_are_whole afOf a_are_whole
  rw [v_ret, f_o]
  refine ok_bind ?_
  refine ok_mono (w_allLc (a := eVar 0) (el := eCall f_is_whole (aCons (eVar 1) (aNil))) (i := 1) (ds := r.map I) rfl (by simpa using hr) (fun d hd m' => ?_)) ?_
  · obtain ⟨z, _, rfl⟩ := List.mem_map.mp hd
    show (aCons (eVar 1) aNil _ m').bind f_is_whole = _
    exact w_is_whole (d := I z) (m := m') (t := "int") rfl
  · rintro d m' ⟨h1, h2⟩
    exact ⟨h1, h2⟩
theorem w_wrong_round {arr : List (Nat × Nat)} {rs : List (List Nat)} {m : Mem} (g : G arr rs) (hr : ∀ p ∈ arr, p.1 < rs.length ∧ p.2 < rs.length) (hl : arr.length ≤ 80) : Ok (f_wrong_round [I rs.length, .tup (arr.map pD), .tup (rs.map tI)] m) fun d m' => d = .non ∧ Pre m m' := by
  have hrows := g.rows
  obtain ⟨_, m1, e1, rfl, p1, q1, r1⟩ := ok_ex (w_ends (m := m) hr (by omega) (by omega))
  have hisr : f_is_row [.tup (rs.map tI), I rs.length] m = .ok (.bl true) m := by
    show f_is_row [.tup (rs.map tI), .int (rs.length : Int)] m = _
    rw [w_is_row]; simp
  unfold f_wrong_round afOf a_wrong_round
  have s1 : sIf (tNt (tVal (eCall f_is_row (aCons (eVar 2) (aCons (eVar 0) (aNil)))))) (sRet (eCall mkTup (aCons (eC (.str "rounds")) (aNil)))) sSkip [some (I rs.length), some (.tup (arr.map pD)), some (.tup (rs.map tI)), none, none, none] m = .nx [some (I rs.length), some (.tup (arr.map pD)), some (.tup (rs.map tI)), none, none, none] m := by
    rw [v_sif, v_nt, v_val, v_call, v_cons, v_vs, v_vs, v_v0 (z := none), v_bind, v_cons, v_v0 (z := none), v_bind, v_nil, v_bind, v_bind, v_bind, hisr, v_bind, v_asB, v_bind, v_o]
    rfl
  have s2 : sAsg (eCall f_ends_by_place (aCons (eVar 0) (aCons (eVar 1) (aNil)))) (gN 3) [some (I rs.length), some (.tup (arr.map pD)), some (.tup (rs.map tI)), none, none, none] m = .nx [some (I rs.length), some (.tup (arr.map pD)), some (.tup (rs.map tI)), some (.ref m.length), none, none] m1 := by
    rw [v_asg, v_call, v_cons, v_v0 (z := none), v_bind, v_cons, v_vs, v_v0 (z := none), v_bind, v_nil, v_bind, v_bind, v_bind, e1, v_o, v_gN, v_o]
    rfl
  show Ok ((sSeq (sIf (tNt (tVal (eCall f_is_row (aCons (eVar 2) (aCons (eVar 0) (aNil)))))) (sRet (eCall mkTup (aCons (eC (.str "rounds")) (aNil)))) sSkip) _ [some (I rs.length), some (.tup (arr.map pD)), some (.tup (rs.map tI)), none, none, none] m).f) _
  rw [v_seq, s1, v_nx, v_seq, s2, v_nx, v_seq]
  refine seq_f ?_
  rw [w_for]
  show Nx (forL _ _ [] (enumD (rs.map tI)) [some (I rs.length), some (.tup (arr.map pD)), some (.tup (rs.map tI)), some (.ref m.length), none, none] m1) _
  let Inv : List D → Env' → Mem → Prop := fun rest e' m' => ∃ (a b : List (List Nat)) (y4 y5 : Option D), rs = a ++ b ∧ rest = enk a.length (b.map tI) ∧ e' = [some (I rs.length), some (.tup (arr.map pD)), some (.tup (rs.map tI)), some (.ref m.length), y4, y5] ∧ Pre m1 m'
  refine nx_mono (forL_go Inv ?_ (fun _ _ _ => gd_nil) _ _ _ ⟨[], rs, none, none, rfl, enumD_enk _, rfl, .refl⟩) ?_
  · rintro d rest e2 m2 ⟨a, b, y4, y5, h1, h2, rfl, h3⟩
    cases b with
    | nil => cases h2
    | cons r b =>
      rw [List.map_cons, enk_cons] at h2
      cases h2
      refine ⟨gd_nil, [some (I rs.length), some (.tup (arr.map pD)), some (.tup (rs.map tI)), some (.ref m.length), some (I a.length), some (tI r)], by simp [I], ?_⟩
      have hk : rs[a.length]? = some r := by rw [h1]; simp
      have hkl : a.length < rs.length := (List.getElem?_eq_some_iff.mp hk).1
      have hrl : r.length < 1000 := by have := g.row (List.mem_of_getElem? hk); omega
      have x1 : ∀ m', Pre m1 m' → dIx (.ref m.length) (I a.length) m' = .ok (.ref (m.length + 1 + a.length)) m' := fun m' q => v_ixL (q _ _ q1) (refs_at hkl)
      have hcell : ∀ m', Pre m1 m' → m'[m.length + 1 + a.length]? = some (.lst ((ed arr arr.length a.length).map I)) := fun m' q => q _ _ (r1 _ hkl)
      have hel : r.length = (ed arr arr.length a.length).length := (ed_row g hk).length_eq
      have x2 : bLen [.ref (m.length + 1 + a.length)] m2 = .ok (.int (r.length : Int)) m2 := by rw [v_lenL (hcell _ h3)]; simp [hel]
      have x3 : f_is_row [tI r, .int (r.length : Int)] m2 = .ok (.bl true) m2 := by
        rw [show tI r = .tup (r.map I) from rfl, w_is_row]; simp
      obtain ⟨_, m3, x4, rfl, p3⟩ := ok_ex (w_are_whole r hrl m2)
      obtain ⟨m4, hm4⟩ : ∃ m4, m4 = m3 ++ [Cell.lst ((ed arr arr.length a.length).map I)] := ⟨_, rfl⟩
      have p4 : Pre m3 m4 := by rw [hm4]; exact .add
      have x5 : bSorted [tI r] m3 = .ok (.ref m3.length) m4 := by
        unfold bSorted itemsD tI
        simp only [intsI]
        rw [sort_ed g hk, hm4]
      have x6 : dNe (.ref m3.length) (.ref (m.length + 1 + a.length)) m4 = .ok (.bl false) m4 := v_neSame (by rw [hm4]; exact new_get) (hcell _ ((h3.trans p3).trans p4))
      have ht : (tOrr (tNt (tVal (eCall f_is_row (aCons (eVar 5) (aCons (eCall bLen (aCons (eOp dIx (eVar 3) (eVar 4)) (aNil))) (aNil)))))) (tOrr (tNt (tVal (eCall f_are_whole (aCons (eVar 5) (aNil))))) (tVal (eOp dNe (eCall bSorted (aCons (eVar 5) (aNil))) (eOp dIx (eVar 3) (eVar 4)))))) [some (I rs.length), some (.tup (arr.map pD)), some (.tup (rs.map tI)), some (.ref m.length), some (I a.length), some (tI r)] m2 = .ok false m4 := by
        rw [v_or, v_nt, v_val, v_call, v_cons, v_vs, v_vs, v_vs, v_vs, v_vs, v_v0 (z := none), v_bind, v_cons, v_call, v_cons, v_op, v_vs, v_vs, v_vs, v_v0 (z := none), v_bind, v_vs, v_vs, v_vs, v_vs, v_v0 (z := none), v_bind, x1 _ h3, v_bind, v_nil, v_bind, v_bind, x2, v_bind, v_nil, v_bind, v_bind, v_bind, x3, v_bind, v_asB, v_bind, v_bind]
        show (tOrr _ _ _ m2) = _
        rw [v_or, v_nt, v_val, v_call, v_cons, v_vs, v_vs, v_vs, v_vs, v_vs, v_v0 (z := none), v_bind, v_nil, v_bind, v_bind, x4, v_bind, v_asB, v_bind, v_bind]
        show (tVal _ _ m3) = _
        rw [v_val, v_op, v_call, v_cons, v_vs, v_vs, v_vs, v_vs, v_vs, v_v0 (z := none), v_bind, v_nil, v_bind, v_bind, x5, v_bind, v_op, v_vs, v_vs, v_vs, v_v0 (z := none), v_bind, v_vs, v_vs, v_vs, v_vs, v_v0 (z := none), v_bind, x1 _ ((h3.trans p3).trans p4), v_bind, x6, v_bind, v_asB]
      rw [v_sif, ht, v_o]
      exact ⟨a ++ [r], b, _, _, by simp [h1], by simp, rfl, (h3.trans p3).trans p4⟩
  · rintro e2 m2 ⟨a, b, y4, y5, h1, h2, rfl, h3⟩
    exact ⟨rfl, p1.trans h3⟩
end Cl
set_option Elab.async false
set_option linter.all false
set_option maxRecDepth 100000
namespace Cl
open PySem PySem.Spec PyProof.Rows L2 Ab
theorem G.inP {arr : List (Nat × Nat)} {rs : List (List Nat)} (g : G arr rs) : ∀ p ∈ arr, p.1 < rs.length ∧ p.2 < rs.length := by
  intro p hp
  obtain ⟨k, hk, e⟩ := List.getElem_of_mem hp
  have h0 : pl arr (2 * k) = p.1 := by
    unfold pl
    rw [show 2 * k / 2 = k by omega, List.getElem?_eq_getElem hk, e]
    simp
  have h1 : pl arr (2 * k + 1) = p.2 := by
    unfold pl
    rw [show (2 * k + 1) / 2 = k by omega, List.getElem?_eq_getElem hk, e]
    have : ¬ (2 * k + 1) % 2 = 0 := by omega
    simp [this]
  obtain ⟨r, a1, _⟩ := g.at' (2 * k) (by omega)
  obtain ⟨r2, a2, _⟩ := g.at' (2 * k + 1) (by omega)
  rw [h0] at a1
  rw [h1] at a2
  exact ⟨(List.getElem?_eq_some_iff.mp a1).1, (List.getElem?_eq_some_iff.mp a2).1⟩
theorem w_is_price {p : D} (h : PriceOK p) (m : Mem) : f_is_price [p] m = .ok (.bl true) m := by
  rcases h with rfl | ⟨i, rfl, h1, h2⟩
  · exact w_is_price_non trivial
  · exact w_is_price_int h1 h2
theorem w_prices {ps : List D} (h : ∀ p ∈ ps, PriceOK p) (hl : ps.length < 1000) (E : Env') (m : Mem) (h4 : eVar 4 E m = .ok (.tup ps) m) (h6 : 6 < E.length) :
    Ok (eCall (bAll true) (aCons (eLc (iE (eVar 4)) (gN 6) (tYesA) (eCall f_is_price (aCons (eVar 6) (aNil))) [6]) (aNil)) E m) fun d m' => d = .bl true ∧ Pre m m' :=
  w_allLc (a := eVar 4) h4 hl (fun d hd m' => by
    have hv : eVar 6 ((wipeE E [6]).set 6 (some d)) m' = .ok d m' := v_var (by
      rw [List.getElem?_set_self]
      show 6 < (E.set 6 none).length
      simpa using h6)
    rw [v_call, v_cons, hv, v_bind, v_nil, v_bind, v_bind]
    exact w_is_price (h d hd) m')
end Cl
set_option Elab.async false
set_option linter.all false
set_option maxRecDepth 100000
namespace Cl
open PySem PySem.Spec PyProof.Rows L2 Ab
section
variable {P n : Nat} {A R S : D} {e5 e6 : Option D} {m : Mem} {o : Nat}
abbrev E7 (a b c d e : D) (f g : Option D) : Env' := [some a, some b, some c, some d, some e, f, g]
theorem wp1 (h : f_is_between [I P, .int 1, .int 40] m = .ok (.bl true) m) {b c d e : D} {f g : Option D} {x : AS} : sIf (tNt (tVal (eCall f_is_between (aCons (eVar 0) (aCons (eC (.int 1)) (aCons (eC (.int 40)) (aNil))))))) x sSkip (E7 (I P) b c d e f g) m = .nx (E7 (I P) b c d e f g) m := by
  rw [v_sif, v_nt, v_val, v_call, v_cons, v_v0 (z := none), v_bind, v_cons, v_c, v_bind, v_cons, v_c, v_bind, v_nil, v_bind, v_bind, v_bind, v_bind, h, v_bind, v_asB, v_bind, v_o]
  rfl
theorem wp2 {a b c d e : D} {f g : Option D} {m1 : Mem} (h : f_wrong_arrow [a, b] m = .ok .non m1) : sAsg (eCall f_wrong_arrow (aCons (eVar 0) (aCons (eVar 1) (aNil)))) (gN 5) (E7 a b c d e f g) m = .nx (E7 a b c d e (some .non) g) m1 := by
  rw [v_asg, v_call, v_cons, v_v0 (z := none), v_bind, v_cons, v_vs, v_v0 (z := none), v_bind, v_nil, v_bind, v_bind, v_bind, h, v_o, v_gN, v_o]
  rfl
theorem wp3 {a b c d e : D} {g : Option D} {m1 : Mem} (h : f_wrong_round [a, b, c] m = .ok .non m1) : sIf (tVal (eOp dIsN (eVar 5) (eC .non))) (sAsg (eCall f_wrong_round (aCons (eVar 0) (aCons (eVar 1) (aCons (eVar 2) (aNil))))) (gN 5)) sSkip (E7 a b c d e (some .non) g) m = .nx (E7 a b c d e (some .non) g) m1 := by
  rw [v_sif]
  show sAsg (eCall f_wrong_round (aCons (eVar 0) (aCons (eVar 1) (aCons (eVar 2) (aNil))))) (gN 5) (E7 a b c d e (some .non) g) m = _
  rw [v_asg, v_call, v_cons, v_v0 (z := none), v_bind, v_cons, v_vs, v_v0 (z := none), v_bind, v_cons, v_vs, v_vs, v_v0 (z := none), v_bind, v_nil, v_bind, v_bind, v_bind, v_bind, h, v_o, v_gN, v_o]
  rfl
theorem wp4 {a b c d e : D} {g : Option D} {x : AS} : sIf (tVal (eOp dNotN (eVar 5) (eC .non))) x sSkip (E7 a b c d e (some .non) g) m = .nx (E7 a b c d e (some .non) g) m := rfl
theorem wp5 {a b c d e : D} {f g : Option D} {m1 : Mem} {x : AS} (h : f_hang_together [a, b] m = .ok (.bl true) m1) : sIf (tNt (tVal (eCall f_hang_together (aCons (eVar 0) (aCons (eVar 1) (aNil)))))) x sSkip (E7 a b c d e f g) m = .nx (E7 a b c d e f g) m1 := by
  rw [v_sif, v_nt, v_val, v_call, v_cons, v_v0 (z := none), v_bind, v_cons, v_vs, v_v0 (z := none), v_bind, v_nil, v_bind, v_bind, v_bind, h, v_bind, v_asB, v_bind, v_o]
  rfl
end
end Cl
set_option Elab.async false
set_option linter.all false
set_option maxRecDepth 100000
namespace Cl
open PySem PySem.Spec PyProof.Rows L2 Ab
section
variable {m : Mem}
theorem wp6 {a b c d e : D} {f g : Option D} {m1 : Mem} {x : AS} {P r n k : Nat} (hP : a = I P) (h : f_rims_between [c] m = .ok (.ref k) m1) (h2 : bLen [.ref k] m1 = .ok (I r) m1) (h3 : bLen [b] m1 = .ok (I n) m1) (he : P + r = n + 2) :
    sIf (tVal (eOp dNe (eOp dAdd (eVar 0) (eCall bLen (aCons (eCall f_rims_between (aCons (eVar 2) (aNil))) (aNil)))) (eOp dAdd (eCall bLen (aCons (eVar 1) (aNil))) (eC (.int 2))))) x sSkip (E7 a b c d e f g) m = .nx (E7 a b c d e f g) m1 := by
  subst hP
  have hn : dNe (.int ((P : Int) + (r : Int))) (.int ((n : Int) + 2)) m1 = .ok (.bl false) m1 := by
    rw [w_neI]
    have : (P : Int) + (r : Int) = (n : Int) + 2 := by omega
    simp [this]
  have a1 : dAdd (I P) (I r) m1 = .ok (.int ((P : Int) + (r : Int))) m1 := rfl
  have a2 : dAdd (I n) (.int 2) m1 = .ok (.int ((n : Int) + 2)) m1 := rfl
  rw [v_sif, v_val, v_op, v_op, v_v0 (z := none), v_bind, v_call, v_cons, v_call, v_cons, v_vs, v_vs, v_v0 (z := none), v_bind, v_nil, v_bind, v_bind, h, v_bind, v_nil, v_bind, v_bind, h2, v_bind, a1, v_bind, v_op, v_call, v_cons, v_vs, v_v0 (z := none), v_bind, v_nil, v_bind, v_bind, h3, v_bind, v_c, v_bind, a2, v_bind, hn, v_bind, v_asB, v_o]
  rfl
theorem wp7 {a b c e : D} {f g : Option D} {x : AS} {o n : Nat} (h3 : bLen [b] m = .ok (I n) m) (ho : o < 2 * n) :
    sIf (tNt (tVal (eCall f_is_between (aCons (eVar 3) (aCons (eC (.int 0)) (aCons (eOp dSub (eOp dMul (eC (.int 2)) (eCall bLen (aCons (eVar 1) (aNil)))) (eC (.int 1))) (aNil))))))) x sSkip (E7 a b c (I o) e f g) m = .nx (E7 a b c (I o) e f g) m := by
  have t1 : dMul (.int 2) (I n) m = .ok (.int (2 * (n : Int))) m := v_mul (.inl (by decide))
  have hb : f_is_between [I o, .int 0, .int (2 * (n : Int) - 1)] m = .ok (.bl true) m := betw (by omega) (by omega) m
  rw [v_sif, v_nt, v_val, v_call, v_cons, v_vs, v_vs, v_vs, v_v0 (z := none), v_bind, v_cons, v_c, v_bind, v_cons, v_op, v_op, v_c, v_bind, v_call, v_cons, v_vs, v_v0 (z := none), v_bind, v_nil, v_bind, v_bind, h3, v_bind, t1, v_bind, v_c, v_bind, v_sub, v_bind, v_nil, v_bind, v_bind, v_bind, v_bind, hb, v_bind, v_asB, v_bind, v_o]
  rfl
end
end Cl
set_option Elab.async false
set_option linter.all false
set_option maxRecDepth 100000
namespace Cl
open PySem PySem.Spec PyProof.Rows L2 Ab
theorem wp8 {m m1 : Mem} {a b c d : D} {ps : List D} {f g : Option D} {x : AS} {n : Nat} (h3 : bLen [b] m = .ok (I n) m) (hl : ps.length = n)
    (hp : eCall (bAll true) (aCons (eLc (iE (eVar 4)) (gN 6) (tYesA) (eCall f_is_price (aCons (eVar 6) (aNil))) [6]) (aNil)) (E7 a b c d (.tup ps) f g) m = .ok (.bl true) m1) :
    sIf (tOrr (tNt (tVal (eCall f_is_row (aCons (eVar 4) (aCons (eCall bLen (aCons (eVar 1) (aNil))) (aNil)))))) (tNt (tVal (eCall (bAll true) (aCons (eLc (iE (eVar 4)) (gN 6) (tYesA) (eCall f_is_price (aCons (eVar 6) (aNil))) [6]) (aNil)))))) x sSkip (E7 a b c d (.tup ps) f g) m = .nx (E7 a b c d (.tup ps) f g) m1 := by
  have hr : f_is_row [.tup ps, I n] m = .ok (.bl true) m := by
    show f_is_row [.tup ps, .int (n : Int)] m = _
    rw [w_is_row]; simp [hl]
  have ht : (tNt (tVal (eCall f_is_row (aCons (eVar 4) (aCons (eCall bLen (aCons (eVar 1) (aNil))) (aNil)))))) (E7 a b c d (.tup ps) f g) m = .ok false m := by
    rw [v_nt, v_val, v_call, v_cons, v_vs, v_vs, v_vs, v_vs, v_v0 (z := none), v_bind, v_cons, v_call, v_cons, v_vs, v_v0 (z := none), v_bind, v_nil, v_bind, v_bind, h3, v_bind, v_nil, v_bind, v_bind, v_bind, hr, v_bind, v_asB, v_bind]
    rfl
  rw [v_sif, v_or, ht, v_bind]
  show ((tNt (tVal (eCall (bAll true) (aCons (eLc (iE (eVar 4)) (gN 6) (tYesA) (eCall f_is_price (aCons (eVar 6) (aNil))) [6]) (aNil))))) (E7 a b c d (.tup ps) f g) m).o _ _ = _
  rw [v_nt, v_val, hp, v_bind, v_asB, v_bind, v_o]
  rfl
theorem w_wrong_part {m : Mem} {arr : List (Nat × Nat)} {rs : List (List Nat)} {o : Nat} {ps : List D} (g : G arr rs) (hn : arr.length ≤ 39) (ho : o < 2 * arr.length) (hl : ps.length = arr.length) (hp : ∀ p ∈ ps, PriceOK p) :
    Ok (f_wrong_part [I rs.length, .tup (arr.map pD), .tup (rs.map tI), I o, .tup ps] m) fun d m' => d = .non ∧ Pre m m' := by
  obtain ⟨rims, F, hF⟩ := g.flat
  have hrows := g.rows
  have hpos := g.pos
  have hrp : 0 < rs.length := by
    obtain ⟨r, h1, _⟩ := g.at' 0 (by omega)
    have := (List.getElem?_eq_some_iff.mp h1).1
    omega
  have c1 : f_is_between [I rs.length, .int 1, .int 40] m = .ok (.bl true) m := betw (by omega) (by omega) m
  obtain ⟨_, m1, e1, rfl, p1⟩ := ok_ex (w_wrong_arrow (n := rs.length) (m := m) hpos (by omega) g.inP)
  obtain ⟨_, m2, e2, rfl, p2⟩ := ok_ex (w_wrong_round (m := m1) g g.inP (by omega))
  obtain ⟨_, m3, e3, rfl, p3⟩ := ok_ex (w_hang_together (P := rs.length) (m := m2) g.inP (by omega) hrp g.conn)
  obtain ⟨_, m4, e4, k, fs, rfl, p4, _, q4, A4⟩ := ok_ex (w_rims_between (m := m3) F (by omega))
  have lb : ∀ m, bLen [.tup (arr.map pD)] m = .ok (I arr.length) m := fun m => by rw [v_lenT]; simp [I]
  have l4 : bLen [.ref k] m4 = .ok (I fs.length) m4 := by rw [v_lenL q4]; simp [I]
  obtain ⟨_, m5, e5, rfl, p5⟩ := ok_ex (w_prices hp (by omega) (E7 (I rs.length) (.tup (arr.map pD)) (.tup (rs.map tI)) (I o) (.tup ps) (some .non) none) m4 rfl (by simp))
  have fin : Pre m m5 := (((p1.trans p2).trans p3).trans p4).trans p5
  unfold f_wrong_part afOf a_wrong_part
  show Ok ((sSeq _ _ (E7 (I rs.length) (.tup (arr.map pD)) (.tup (rs.map tI)) (I o) (.tup ps) none none) m).f) _
  rw [v_seq, wp1 c1, v_nx, v_seq, wp2 e1, v_nx, v_seq, wp3 e2, v_nx, v_seq, wp4, v_nx, v_seq, wp5 e3, v_nx, v_seq, wp6 rfl e4 l4 (lb m4) (by rw [A4.len]; omega), v_nx, v_seq, wp7 (lb m4) ho, v_nx, v_seq, wp8 (lb m4) hl e5, v_nx, v_ret, v_c, v_o, v_frt]
  exact ⟨rfl, fin⟩
end Cl
set_option Elab.async false
set_option linter.all false
set_option maxRecDepth 100000
namespace Cl
open PySem PySem.Spec PyProof.Rows L2 Ab
/-! ### a comprehension that leaves the memory as it is -/
theorem lcL_pure {α : Type} {tg : AG} {tt : AT} {el : AE} {gd : Gd} {env : Env'} {m0 : Mem} (gx : α → D) (p : α → Bool) (f : α → D) (hg : ∀ acc, gd.Ok (m0 ++ [.lst acc])) :
    ∀ (xs : List α) (acc : List D), (∀ x ∈ xs, ∀ acc, ∃ e2, tg (gx x) env (m0 ++ [.lst acc]) = .ok e2 (m0 ++ [.lst acc]) ∧ tt e2 (m0 ++ [.lst acc]) = .ok (p x) (m0 ++ [.lst acc]) ∧ (p x = true → el e2 (m0 ++ [.lst acc]) = .ok (f x) (m0 ++ [.lst acc]))) →
      acc.length + xs.length < 2 ^ 24 → lcL tg tt el gd env m0.length (xs.map gx) (m0 ++ [.lst acc]) = .ok () (m0 ++ [.lst (acc ++ (xs.filter p).map f)])
  | [], acc, _, _ => by
    show lcL tg tt el gd env m0.length [] (m0 ++ [.lst acc]) = _
    unfold lcL
    rw [if_pos (hg acc)]; simp
  | x :: xs, acc, h, hl => by
    obtain ⟨e2, h1, h2, h3⟩ := h x List.mem_cons_self acc
    have ih := fun acc hl => lcL_pure gx p f hg xs acc (fun y hy => h y (List.mem_cons_of_mem _ hy)) hl
    show lcL tg tt el gd env m0.length (gx x :: xs.map gx) (m0 ++ [.lst acc]) = _
    unfold lcL
    rw [if_pos (hg acc), h1]
    dsimp only
    rw [h2]
    dsimp only
    cases hp : p x with
    | false =>
      rw [if_neg Bool.false_ne_true, ih acc (by simp at hl; omega), List.filter_cons_of_neg (by simp [hp])]
    | true =>
      rw [if_pos rfl, h3 hp]
      dsimp only
      have hg2 : (m0 ++ [Cell.lst acc])[m0.length]? = some (.lst acc) := by simp
      rw [hg2]
      dsimp only
      rw [if_pos (by show acc.length < 2 ^ 24; simp at hl; omega)]
      have hs : (m0 ++ [Cell.lst acc]).set m0.length (.lst (acc ++ [f x])) = m0 ++ [.lst (acc ++ [f x])] := by simp
      rw [hs, ih _ (by simp at hl ⊢; omega), List.filter_cons_of_pos hp]
      simp
theorem lc_eq {α : Type} {it : AI} {tg : AG} {tt : AT} {el : AE} {gd : Gd} {vs : List Nat} {e : Env'} {m m1 : Mem} {ds : List D} (gx : α → D) (xs : List α) (p : α → Bool) (f : α → D) (hit : it e m = .ok (ds, gd) m1) (hds : ds = xs.map gx) (hg : ∀ acc, gd.Ok (m1 ++ [.lst acc])) (hl : xs.length < 2 ^ 24)
    (h : ∀ x ∈ xs, ∀ acc, ∃ e2, tg (gx x) (wipeE e vs) (m1 ++ [.lst acc]) = .ok e2 (m1 ++ [.lst acc]) ∧ tt e2 (m1 ++ [.lst acc]) = .ok (p x) (m1 ++ [.lst acc]) ∧ (p x = true → el e2 (m1 ++ [.lst acc]) = .ok (f x) (m1 ++ [.lst acc]))) :
    eLc it tg tt el vs e m = .ok (.ref m1.length) (m1 ++ [.lst ((xs.filter p).map f)]) := by
  unfold eLc
  rw [hit, v_bind, hds]
  dsimp only
  rw [lcL_pure gx p f hg xs [] h (by simpa using hl)]
  simp
theorem gd_add {m : Mem} {gd : Gd} {acc : List D} (h : gd.Ok m) : gd.Ok (m ++ [.lst acc]) := fun p hp => Pre.add _ _ (h p hp)
/-! ### the least end -/
def lo (r : List Nat) : Nat := match r with
  | [] => 0
  | x :: l => l.foldl min x
theorem fold_lo : ∀ (l : List Nat) (x : Nat), (l.map fun (n : Nat) => (n : Int)).foldl min (x : Int) = ((l.foldl min x : Nat) : Int)
  | [], x => rfl
  | y :: l, x => by
    have : min (x : Int) (y : Int) = ((min x y : Nat) : Int) := by omega
    rw [List.map_cons, List.foldl_cons, List.foldl_cons, this, fold_lo l]
theorem lo_in : ∀ (l : List Nat) (x : Nat), l.foldl min x ∈ x :: l
  | [], x => by simp
  | y :: l, x => by
    rw [List.foldl_cons]
    have := lo_in l (min x y)
    rcases List.mem_cons.mp this with z | z
    · rw [z]
      rcases Nat.le_total x y with q | q
      · rw [Nat.min_eq_left q]; simp
      · rw [Nat.min_eq_right q]; simp
    · exact List.mem_cons_of_mem _ (List.mem_cons_of_mem _ z)
theorem lo_mem {r : List Nat} (h : r ≠ []) : lo r ∈ r := by
  cases r with
  | nil => exact absurd rfl h
  | cons x l => exact lo_in l x
def begL (r : List Nat) : List Nat := r.drop (r.idxOf (lo r)) ++ r.take (r.idxOf (lo r))
theorem begL_turn (r : List Nat) : Ch.Turn r (begL r) := ⟨r.take (r.idxOf (lo r)), r.drop (r.idxOf (lo r)), (List.take_append_drop _ _).symm, rfl⟩
theorem begL_len (r : List Nat) : (begL r).length = r.length := by unfold begL; simp; omega
theorem idx_cast (k : Nat) : ∀ l : List Nat, (l.map fun (n : Nat) => (n : Int)).idxOf (k : Int) = l.idxOf k
  | [] => rfl
  | x :: l => by
    rw [List.map_cons, List.idxOf_cons, List.idxOf_cons, idx_cast k l]
    by_cases h : x = k
    · simp [h]
    · have : ¬ (x : Int) = (k : Int) := by omega
      simp [h, this, cond_eq_ite]
theorem v_minT {r : List Nat} (h : r ≠ []) (m : Mem) : bMin [tI r] m = .ok (I (lo r)) m := by
  cases r with
  | nil => exact absurd rfl h
  | cons x l =>
    have h1 : intsD ((x :: l).map I) = some ((x : Int) :: l.map fun (n : Nat) => (n : Int)) := intsI _
    show bMinMax (fun n ns => ns.foldl min n) [.tup ((x :: l).map I)] m = _
    unfold bMinMax itemsD
    dsimp only
    rw [h1]
    dsimp only
    rw [fold_lo]
    rfl
theorem v_idxT {r : List Nat} {k : Nat} (h : k ∈ r) (m : Mem) : mTIndex (tI r) [I k] m = .ok (I (r.idxOf k)) m := by
  show mTIndex (.tup (r.map I)) [.int (k : Int)] m = _
  unfold mTIndex
  dsimp only
  rw [intsI]
  dsimp only
  rw [if_pos (List.mem_map.mpr ⟨k, h, rfl⟩), idx_cast]
  rfl
theorem v_slT {ds : List D} {lo hi : Option Int} {m : Mem} : dSl (.tup ds) lo hi m = .ok (.tup (Ab.cutD ds lo hi)) m := rfl
theorem v_catT {a b : List D} {m : Mem} (hl : a.length + b.length ≤ sizeLine) : dAdd (.tup a) (.tup b) m = .ok (.tup (a ++ b)) m := by unfold dAdd; dsimp only; rw [if_pos hl]
theorem w_begun {r : List Nat} (h : r ≠ []) (hl : r.length < 1000) (m : Mem) : f_begun_least [tI r] m = .ok (tI (begL r)) m := by
  have hz : sizeLine = 2 ^ 24 := rfl
  have e1 := v_minT h m
  have e2 := v_idxT (lo_mem h) m
  have e3 : dSl (tI r) (some (r.idxOf (lo r) : Nat)) none m = .ok (.tup ((r.map I).drop (r.idxOf (lo r)))) m := by
    unfold tI; rw [v_slT, cut_hi]
  have e4 : dSl (tI r) none (some (r.idxOf (lo r) : Nat)) m = .ok (.tup ((r.map I).take (r.idxOf (lo r)))) m := by
    unfold tI; rw [v_slT, cut_lo]
  have e5 : dAdd (.tup ((r.map I).drop (r.idxOf (lo r)))) (.tup ((r.map I).take (r.idxOf (lo r)))) m = .ok (tI (begL r)) m := by
    rw [v_catT (by simp; omega)]
    unfold tI begL
    simp
  unfold f_begun_least afOf a_begun_least
  have s1 : sAsg (eMt isT mTIndex (eVar 0) (aCons (eCall bMin (aCons (eVar 0) (aNil))) (aNil))) (gN 1) [some (tI r), none] m = .nx [some (tI r), some (I (r.idxOf (lo r)))] m := by
    rw [v_asg, w_mt, v_v0 (z := none), v_bind, show isT (tI r) m = true from rfl, if_pos rfl, v_cons, v_call, v_cons, v_v0 (z := none), v_bind, v_nil, v_bind, v_bind, e1, v_bind, v_nil, v_bind, v_bind, e2, v_o, v_gN, v_o]
    rfl
  show ((sSeq _ _ [some (tI r), none] m).f) = _
  rw [v_seq, s1, v_nx, v_ret, v_op, w_sl, v_v0 (z := none), v_bind, w_oS, v_vs, v_v0 (z := none), v_bind]
  dsimp only [I]
  rw [v_bind, w_oN, v_bind, e3, v_bind, w_sl, v_v0 (z := none), v_bind, w_oN, v_bind, w_oS, v_vs, v_v0 (z := none), v_bind]
  dsimp only
  rw [v_bind, e4, v_bind, e5, v_o, v_frt]
end Cl
set_option Elab.async false
set_option linter.all false
set_option maxRecDepth 100000
namespace Cl
open PySem PySem.Spec PyProof.Rows L2 Ab
theorem filt_t {α : Type} : ∀ l : List α, l.filter (fun _ => true) = l
  | [] => rfl
  | x :: l => by rw [List.filter_cons_of_pos rfl, filt_t l]
theorem anyI (a : Nat) : ∀ l : List Nat, (l.map pI).any (fun z => PyData.eqv z (pI a)) = decide (a ∈ l)
  | [] => by simp
  | x :: l => by
    rw [List.map_cons, List.any_cons, eqvI, anyI a l]
    by_cases h : x = a
    · simp [h]
    · have : ¬ a = x := fun z => h z.symm
      simp [h, this]
theorem v_inT (a : Nat) (r : List Nat) (m : Mem) : dIn (I a) (tI r) m = .ok (.bl (decide (a ∈ r))) m := by
  show dIn0 false (I a) (.tup (r.map I)) m = _
  unfold dIn0
  dsimp only
  rw [toP_tup, show toP m DEEP (I a) = some (pI a) from toP_int]
  dsimp only
  rw [if_pos ⟨rfl, shapedT r⟩, anyI, Bool.false_xor]
theorem atI_zero {α : Type} {x : α} {l : List α} : atI (x :: l) 0 = some x := atI_nat (i := 0) rfl
/-- the least angle of the rim that an angle is on -/
def lbX (fs : List (List Nat)) (a : Nat) : Nat := match fs.find? (fun f => decide (a ∈ f)) with
  | some f => f.headD 0
  | none => 0
theorem v_itL {n : Nat} {m : Mem} {ds : List D} (h : m[n]? = some (.lst ds)) : itD (.ref n) m = .ok (ds, [(n, .lst ds)]) m := by
  unfold itD; simp only [h]
theorem gd_one {n : Nat} {m : Mem} {c : Cell} (h : m[n]? = some c) : Gd.Ok [(n, c)] m := fun p hp => by
  rw [List.mem_singleton.mp hp]; exact h
theorem w_least {k : Nat} {m : Mem} {fs : List (List Nat)} {a : Nat} (h : m[k]? = some (.lst (fs.map tI))) (hne : ∀ f ∈ fs, f ≠ []) (hl : fs.length < 1000) (ha : ∃ f ∈ fs, a ∈ f) : Ok (f_least_beside [.ref k, I a] m) fun d m' => d = I (lbX fs a) ∧ Pre m m' := by
  unfold f_least_beside afOf a_least_beside
  have e1 : iE (eVar 0) [some (.ref k), some (I a), none] m = .ok (fs.map tI, [(k, .lst (fs.map tI))]) m := by
    rw [w_iE, v_v0 (z := none), v_bind, v_itL h]
  have e2 := lc_eq (tg := gN 2) (tt := tVal (eOp dIn (eVar 1) (eVar 2))) (el := eOp dIx (eVar 2) (eC (.int 0))) (vs := [2]) tI fs (fun f => decide (a ∈ f)) (fun f => I (f.headD 0)) e1 rfl (fun acc => gd_add (gd_one h)) (by omega) (fun f hf acc => by
    refine ⟨_, rfl, ?_, fun _ => ?_⟩
    · rw [v_val, v_op]
      show ((dIn (I a) (tI f) _).bind asB) = _
      rw [v_inT, v_bind, v_asB]
    · rw [v_op]
      show dIx (tI f) (.int 0) _ = _
      cases f with
      | nil => exact absurd rfl (hne _ hf)
      | cons x f => exact v_ixT atI_zero)
  have hh : ∃ f r, fs.filter (fun f => decide (a ∈ f)) = f :: r ∧ fs.find? (fun f => decide (a ∈ f)) = some f := by
    cases hf : fs.filter (fun f => decide (a ∈ f)) with
    | nil =>
      obtain ⟨f, h1, h2⟩ := ha
      have := List.filter_eq_nil_iff.mp hf f h1
      simp [h2] at this
    | cons f r => exact ⟨f, r, rfl, by rw [← List.head?_filter, hf]; rfl⟩
  obtain ⟨f, r, h1, h2⟩ := hh
  show Ok ((sRet _ [some (.ref k), some (I a), none] m).f) _
  rw [v_ret, v_op, e2, v_bind, v_c, v_bind, h1, v_ixL new_get (List.map_cons ▸ atI_zero), v_o, v_frt]
  refine ⟨?_, .add⟩
  unfold lbX
  rw [h2]
/-! ### a chart is made -/
theorem v_fldS {c f : Str} {o v : AE} {e : Env'} {m m1 m2 : Mem} {y : D} {n : Nat} {fs : List (Str × D)} (h1 : v e m = .ok y m1) (h2 : o e m1 = .ok (.ref n) m2) (h3 : m2[n]? = some (.ins c fs)) (h4 : fs.length < 1000) : sFldS c f o v e m = .nx e (m2.set n (.ins c (putFD f y fs))) := by
  unfold sFldS
  rw [h1, v_o, h2, v_o]
  dsimp only
  rw [h3]
  dsimp only
  rw [if_pos ⟨rfl, h4⟩]
def chF (P : Nat) (arr : List (Nat × Nat)) (rs : List (List Nat)) (o : Nat) (ps : List D) : List (Str × D) := [("places", I P), ("arrows", .tup (arr.map pD)), ("rounds", .tup (rs.map tI)), ("outer", I o), ("prices", .tup ps)]
theorem v_tupT {ds : List D} {m : Mem} : bTuple [.tup ds] m = .ok (.tup ds) m := rfl
theorem w_init {m : Mem} {self : Nat} {arr : List (Nat × Nat)} {rs rims : List (List Nat)} {o : Nat} {ps : List D} (g : G arr rs) (F : Ch.Flat rs rims (2 * arr.length)) (hF : rs.length + rims.length = arr.length + 2) (hn : arr.length ≤ 39) (ho : o < 2 * arr.length) (hl : ps.length = arr.length) (hp : ∀ p ∈ ps, PriceOK p) (hs : m[self]? = some (.ins "Chart" [])) :
    Ok (f_Chart_init [.ref self, I rs.length, .tup (arr.map pD), .tup (rs.map tI), I o, .tup ps] m) fun d m' => d = .non ∧ Fr self m m' ∧ m'[self]? = some (.ins "Chart" (chF rs.length arr (rs.map begL) (lbX (rimsX rims (List.range (2 * arr.length))) o) ps)) := by
  have hz : sizeLine = 2 ^ 24 := rfl
  have hrows := g.rows
  have hsl := (List.getElem?_eq_some_iff.mp hs).1
  obtain ⟨_, m1, e1, rfl, p1⟩ := ok_ex (w_wrong_part (m := m) g hn ho hl hp)
  unfold f_Chart_init afOf a_Chart_init
  obtain ⟨E, hE⟩ : ∃ E : Env', E = [some (.ref self), some (I rs.length), some (.tup (arr.map pD)), some (.tup (rs.map tI)), some (I o), some (.tup ps), some .non, none, none, none] := ⟨_, rfl⟩
  have s1 : sAsg (eCall f_wrong_part (aCons (eVar 1) (aCons (eVar 2) (aCons (eVar 3) (aCons (eVar 4) (aCons (eVar 5) (aNil))))))) (gN 6) [some (.ref self), some (I rs.length), some (.tup (arr.map pD)), some (.tup (rs.map tI)), some (I o), some (.tup ps), none, none, none, none] m = .nx E m1 := by
    rw [hE, v_asg, v_call, v_cons, v_vs, v_v0 (z := none), v_bind, v_cons, v_vs, v_vs, v_v0 (z := none), v_bind, v_cons, v_vs, v_vs, v_vs, v_v0 (z := none), v_bind, v_cons, v_vs, v_vs, v_vs, v_vs, v_v0 (z := none), v_bind, v_cons, v_vs, v_vs, v_vs, v_vs, v_vs, v_v0 (z := none), v_bind, v_nil, v_bind, v_bind, v_bind, v_bind, v_bind, v_bind, e1, v_o, v_gN, v_o]
    rfl
  have s2 : ∀ x, sIf (tVal (eOp dNotN (eVar 6) (eC .non))) x sSkip E m1 = .nx E m1 := fun x => by rw [hE]; rfl
  have v0 : ∀ m, eVar 0 E m = .ok (.ref self) m := fun m => by rw [hE]; rfl
  have v1 : ∀ m, eVar 1 E m = .ok (I rs.length) m := fun m => by rw [hE]; rfl
  have v2 : ∀ m, eVar 2 E m = .ok (.tup (arr.map pD)) m := fun m => by rw [hE]; rfl
  have v3 : ∀ m, eVar 3 E m = .ok (.tup (rs.map tI)) m := fun m => by rw [hE]; rfl
  have v4 : ∀ m, eVar 4 E m = .ok (I o) m := fun m => by rw [hE]; rfl
  have v5 : ∀ m, eVar 5 E m = .ok (.tup ps) m := fun m => by rw [hE]; rfl
  have hw : wipeE E [7, 8] = [some (.ref self), some (I rs.length), some (.tup (arr.map pD)), some (.tup (rs.map tI)), some (I o), some (.tup ps), some .non, none, none, none] := by rw [hE]; rfl
  have hw9 : wipeE E [9] = [some (.ref self), some (I rs.length), some (.tup (arr.map pD)), some (.tup (rs.map tI)), some (I o), some (.tup ps), some .non, none, none, none] := by rw [hE]; rfl
  show Ok ((sSeq _ _ [some (.ref self), some (I rs.length), some (.tup (arr.map pD)), some (.tup (rs.map tI)), some (I o), some (.tup ps), none, none, none, none] m).f) _
  have h1 := p1 _ _ hs
  have c3 := v_fldS (f := "places") (v1 m1) (v0 m1) h1 (by simp)
  obtain ⟨m2, hm2⟩ : ∃ m2, m2 = m1.set self (.ins "Chart" (putFD "places" (I rs.length) [])) := ⟨_, rfl⟩
  rw [← hm2] at c3
  have k2 : Fr self m m2 := by rw [hm2]; exact p1.fr.trans .set
  have h2 : m2[self]? = some (.ins "Chart" [("places", I rs.length)]) := by rw [hm2, get_set h1]; rfl
  -- arrows
  have e4 := lc_eq (it := iE (eVar 2)) (tg := gT 2 (gsCons (gN 7) (gsCons (gN 8) (gsNil)))) (tt := tYesA) (el := eCall mkTup (aCons (eVar 7) (aCons (eVar 8) (aNil)))) (vs := [7, 8]) (e := E) (m := m2) pD arr (fun _ => true) pD (by rw [w_iE, v2, v_bind, w_itT]) rfl (fun acc => gd_nil) (by omega) (fun p _ acc => by
    rw [hw]
    refine ⟨_, rfl, rfl, fun _ => ?_⟩
    rfl)
  obtain ⟨m3, hm3⟩ : ∃ m3, m3 = m2 ++ [Cell.lst ((arr.filter fun _ => true).map pD)] := ⟨_, rfl⟩
  rw [← hm3] at e4
  have q3 : m3[m2.length]? = some (.lst (arr.map pD)) := by rw [hm3, filt_t]; simp
  have p3 : Pre m2 m3 := by rw [hm3]; exact .add
  have h3 := p3 _ _ h2
  have e4' : eCall bTuple (aCons (eLc (iE (eVar 2)) (gT 2 (gsCons (gN 7) (gsCons (gN 8) (gsNil)))) (tYesA) (eCall mkTup (aCons (eVar 7) (aCons (eVar 8) (aNil)))) [7, 8]) (aNil)) E m2 = .ok (.tup (arr.map pD)) m3 := by
    rw [v_call, v_cons, e4, v_bind, v_nil, v_bind, v_bind, v_tupL q3]
  have c4 := v_fldS (f := "arrows") e4' (v0 m3) h3 (by simp)
  obtain ⟨m4, hm4⟩ : ∃ m4, m4 = m3.set self (.ins "Chart" (putFD "arrows" (.tup (arr.map pD)) [("places", I rs.length)])) := ⟨_, rfl⟩
  rw [← hm4] at c4
  have k4 : Fr self m m4 := by rw [hm4]; exact (k2.trans p3.fr).trans .set
  have h4 : m4[self]? = some (.ins "Chart" [("places", I rs.length), ("arrows", .tup (arr.map pD))]) := by rw [hm4, get_set h3]; rfl
  -- rounds
  have e5 := lc_eq (it := iE (eVar 3)) (tg := gN 9) (tt := tYesA) (el := eCall f_begun_least (aCons (eVar 9) (aNil))) (vs := [9]) (e := E) (m := m4) tI rs (fun _ => true) (fun r => tI (begL r)) (by rw [w_iE, v3, v_bind, w_itT]) rfl (fun acc => gd_nil) (by omega) (fun r hr acc => by
    rw [hw9]
    refine ⟨_, rfl, rfl, fun _ => ?_⟩
    show f_begun_least [tI r] _ = _
    have := g.row hr
    exact w_begun (F.rne r hr) (by omega) _)
  obtain ⟨m5, hm5⟩ : ∃ m5, m5 = m4 ++ [Cell.lst ((rs.filter fun _ => true).map fun r => tI (begL r))] := ⟨_, rfl⟩
  rw [← hm5] at e5
  have q5 : m5[m4.length]? = some (.lst ((rs.map begL).map tI)) := by rw [hm5, filt_t]; simp
  have p5 : Pre m4 m5 := by rw [hm5]; exact .add
  have h5 := p5 _ _ h4
  have e5' : eCall bTuple (aCons (eLc (iE (eVar 3)) (gN 9) (tYesA) (eCall f_begun_least (aCons (eVar 9) (aNil))) [9]) (aNil)) E m4 = .ok (.tup ((rs.map begL).map tI)) m5 := by
    rw [v_call, v_cons, e5, v_bind, v_nil, v_bind, v_bind, v_tupL q5]
  have c5 := v_fldS (f := "rounds") e5' (v0 m5) h5 (by simp)
  obtain ⟨m6, hm6⟩ : ∃ m6, m6 = m5.set self (.ins "Chart" (putFD "rounds" (.tup ((rs.map begL).map tI)) [("places", I rs.length), ("arrows", .tup (arr.map pD))])) := ⟨_, rfl⟩
  rw [← hm6] at c5
  have k6 : Fr self m m6 := by rw [hm6]; exact (k4.trans p5.fr).trans .set
  have h6 : m6[self]? = some (.ins "Chart" [("places", I rs.length), ("arrows", .tup (arr.map pD)), ("rounds", .tup ((rs.map begL).map tI))]) := by rw [hm6, get_set h5]; rfl
  -- outer
  obtain ⟨_, m7, e7, k, fs, rfl, p7, _, q7, A7⟩ := ok_ex (w_rims_between (m := m6) F (by omega))
  obtain ⟨_, m8, e8, rfl, p8⟩ := ok_ex (w_least (k := k) (m := m7) (fs := fs) (a := o) q7 A7.ne (by rw [A7.len]; omega) (A7.has o ho))
  have e8' : eCall f_least_beside (aCons (eCall f_rims_between (aCons (eVar 3) (aNil))) (aCons (eVar 4) (aNil))) E m6 = .ok (I (lbX fs o)) m8 := by
    rw [v_call, v_cons, v_call, v_cons, v3, v_bind, v_nil, v_bind, v_bind, e7, v_bind, v_cons, v4, v_bind, v_nil, v_bind, v_bind, v_bind, e8]
  have h8 := p8 _ _ (p7 _ _ h6)
  have c6 := v_fldS (f := "outer") e8' (v0 m8) h8 (by simp)
  obtain ⟨m9, hm9⟩ : ∃ m9, m9 = m8.set self (.ins "Chart" (putFD "outer" (I (lbX fs o)) [("places", I rs.length), ("arrows", .tup (arr.map pD)), ("rounds", .tup ((rs.map begL).map tI))])) := ⟨_, rfl⟩
  rw [← hm9] at c6
  have k9 : Fr self m m9 := by rw [hm9]; exact ((k6.trans p7.fr).trans p8.fr).trans .set
  have h9 : m9[self]? = some (.ins "Chart" [("places", I rs.length), ("arrows", .tup (arr.map pD)), ("rounds", .tup ((rs.map begL).map tI)), ("outer", I (lbX fs o))]) := by rw [hm9, get_set h8]; rfl
  -- prices
  have e10 : eCall bTuple (aCons (eVar 5) (aNil)) E m9 = .ok (.tup ps) m9 := by
    rw [v_call, v_cons, v5, v_bind, v_nil, v_bind, v_bind, v_tupT]
  have c7 := v_fldS (f := "prices") e10 (v0 m9) h9 (by simp)
  rw [v_seq, s1, v_nx, v_seq, s2, v_nx, v_seq, c3, v_nx, v_seq, c4, v_nx, v_seq, c5, v_nx, v_seq, c6, v_nx, c7, v_fnx]
  refine ⟨rfl, k9.trans .set, ?_⟩
  rw [get_set h9, ← A7.eq]
  rfl
end Cl
set_option Elab.async false
set_option linter.all false
set_option maxRecDepth 100000
namespace Cl
open PySem PySem.Spec PyProof.Rows L2 Ab
/-! ### what is asked of a chart -/
theorem v_fld {c f : Str} {a : AE} {e : Env'} {m m1 : Mem} {n : Nat} {fs : List (Str × D)} {d : D} (h1 : a e m = .ok (.ref n) m1) (h2 : m1[n]? = some (.ins c fs)) (h3 : lookF f fs = some d) : eFld c f a e m = .ok d m1 := by
  unfold eFld
  rw [h1, v_bind]
  dsimp only
  rw [h2]
  dsimp only
  rw [if_pos rfl, h3]
/-- a chart stands at c -/
def ChI (c : Nat) (m : Mem) (P : Nat) (arr : List (Nat × Nat)) (rs : List (List Nat)) (o : Nat) (ps : List D) : Prop := m[c]? = some (.ins "Chart" (chF P arr rs o ps))
section
variable {c : Nat} {m m1 : Mem} {P : Nat} {arr : List (Nat × Nat)} {rs : List (List Nat)} {o : Nat} {ps : List D} {a : AE} {e : Env'}
theorem ChI.pre (C : ChI c m P arr rs o ps) (p : Pre m m1) : ChI c m1 P arr rs o ps := p _ _ C
theorem ChI.f_places (C : ChI c m1 P arr rs o ps) (h : a e m = .ok (.ref c) m1) : eFld "Chart" "places" a e m = .ok (I P) m1 := v_fld h C rfl
theorem ChI.f_arrows (C : ChI c m1 P arr rs o ps) (h : a e m = .ok (.ref c) m1) : eFld "Chart" "arrows" a e m = .ok (.tup (arr.map pD)) m1 := v_fld h C rfl
theorem ChI.f_rounds (C : ChI c m1 P arr rs o ps) (h : a e m = .ok (.ref c) m1) : eFld "Chart" "rounds" a e m = .ok (.tup (rs.map tI)) m1 := v_fld h C rfl
theorem ChI.f_outer (C : ChI c m1 P arr rs o ps) (h : a e m = .ok (.ref c) m1) : eFld "Chart" "outer" a e m = .ok (I o) m1 := v_fld h C rfl
theorem ChI.f_prices (C : ChI c m1 P arr rs o ps) (h : a e m = .ok (.ref c) m1) : eFld "Chart" "prices" a e m = .ok (.tup ps) m1 := v_fld h C rfl
end
theorem lenA (arr : List (Nat × Nat)) (m : Mem) : bLen [.tup (arr.map pD)] m = .ok (I arr.length) m := by rw [v_lenT]; simp [I]
theorem mul2 (n : Nat) (m : Mem) : dMul (.int 2) (I n) m = .ok (.int (2 * (n : Int))) m := v_mul (.inl (by decide))
theorem w_is_end {c : Nat} {m : Mem} {P : Nat} {arr : List (Nat × Nat)} {rs : List (List Nat)} {o : Nat} {ps : List D} (C : ChI c m P arr rs o ps) {d : D} {t : String} (ht : tyN d m = some t) : f_is_end [.ref c, d] m = .ok (.bl (between d 0 (2 * (arr.length : Int) - 1))) m := by
  unfold f_is_end afOf a_is_end
  show ((sRet _ [some (.ref c), some d] m).f) = _
  rw [v_ret, v_call, v_cons, v_vs, v_v0 (z := none), v_bind, v_cons, v_c, v_bind, v_cons, v_op, v_op, v_c, v_bind, v_call, v_cons, C.f_arrows (v_v0 (z := none)), v_bind, v_nil, v_bind, v_bind, lenA, v_bind, mul2, v_bind, v_c, v_bind, v_sub, v_bind, v_nil, v_bind, v_bind, v_bind, v_bind, w_is_between ht, v_o, v_frt]
theorem w_rims_ch {c : Nat} {m : Mem} {P : Nat} {arr : List (Nat × Nat)} {rs rims : List (List Nat)} {o : Nat} {ps : List D} (C : ChI c m P arr rs o ps) (F : Ch.Flat rs rims (2 * arr.length)) (hn : arr.length ≤ 100) :
    Ok (f_rims [.ref c] m) fun d m' => ∃ k, d = .ref k ∧ Pre m m' ∧ m.length ≤ k ∧ m'[k]? = some (.lst ((rimsX rims (List.range (2 * arr.length))).map tI)) ∧ AllRims rims (rimsX rims (List.range (2 * arr.length))) (2 * arr.length) := by
  obtain ⟨_, m7, e7, k, fs, rfl, p7, l7, q7, A7⟩ := ok_ex (w_rims_between (m := m) F (by omega))
  unfold f_rims afOf a_rims
  show Ok ((sRet _ [some (.ref c)] m).f) _
  rw [v_ret, v_call, v_cons, C.f_rounds (v_v0 (z := none)), v_bind, v_nil, v_bind, v_bind, e7, v_o, v_frt]
  rw [← A7.eq]
  exact ⟨k, rfl, p7, l7, q7, A7⟩
/-! ### the numbers of rims -/
theorem set_same {m : Mem} {k : Nat} {c : Cell} (h : m[k]? = some c) : m.set k c = m := by
  apply List.ext_getElem?
  intro i
  by_cases z : i = k
  · subst z; rw [get_set h, h]
  · rw [List.getElem?_set_ne (Ne.symm z)]
noncomputable def wNum : AS := sAsg (eVar 2) (gS dSet (eVar 1) (eVar 4))
theorem forL_nx {tg : AG} {b : AS} {gd : Gd} {d : D} {r : List D} {e e2 e3 : Env'} {m m3 : Mem} (hg : gd.Ok m) (ht : tg d e m = .ok e2 m) (hb : b e2 m = .nx e3 m3) : forL tg b gd (d :: r) e m = forL tg b gd r e3 m3 := by
  rw [show forL tg b gd (d :: r) e m = _ from by unfold forL; rfl, if_pos hg, ht]
  show (match b e2 m with | .nx e m => forL tg b gd r e m | .ct e m => forL tg b gd r e m | .bk e m => .nx e m | .rt d m => .rt d m | .er x e m => .er x e m | .no => .no) = _
  rw [hb]
theorem forL_nil {tg : AG} {b : AS} {gd : Gd} {e : Env'} {m : Mem} (hg : gd.Ok m) : forL tg b gd [] e m = .nx e m := by
  unfold forL; rw [if_pos hg]
def setAll (l : List D) (f : List Nat) (d : D) : List D := f.foldl (fun l e => l.set e d) l
theorem setAll_len (f : List Nat) (d : D) : ∀ l : List D, (setAll l f d).length = l.length := by
  induction f with
  | nil => intro l; rfl
  | cons x f ih => intro l; show (setAll (l.set x d) f d).length = _; rw [ih]; simp
theorem setAll_get (f : List Nat) (d : D) : ∀ (l : List D) (e : Nat), e < l.length → (setAll l f d)[e]? = if e ∈ f then some d else l[e]? := by
  induction f with
  | nil => intro l e h; simp [setAll]
  | cons x f ih =>
    intro l e h
    show (setAll (l.set x d) f d)[e]? = _
    rw [ih _ e (by simpa using h)]
    by_cases z : e ∈ f
    · simp [z]
    · rw [if_neg z]
      by_cases y : e = x
      · subst y; simp [h]
      · rw [List.getElem?_set_ne (Ne.symm y), if_neg (by simp [z, y])]
theorem w_num1 {kn j : Nat} {C R3 : D} : ∀ (f : List Nat) (l : List D) (m : Mem) (x4 : Option D), m[kn]? = some (.lst l) → (∀ e ∈ f, e < l.length) →
    ∃ y4, forL (gN 4) wNum [] (f.map I) [some C, some (.ref kn), some (I j), some R3, x4] m = .nx [some C, some (.ref kn), some (I j), some R3, y4] (m.set kn (.lst (setAll l f (I j))))
  | [], l, m, x4, h, _ => ⟨x4, by rw [List.map_nil, forL_nil gd_nil, show setAll l [] (I j) = l from rfl, set_same h]⟩
  | x :: f, l, m, x4, h, hl => by
    have hx := hl x List.mem_cons_self
    obtain ⟨y4, ih⟩ := w_num1 f (l.set x (I j)) (m.set kn (.lst (l.set x (I j)))) (some (I x)) (get_set h) (fun e he => by simpa using hl e (List.mem_cons_of_mem _ he))
    refine ⟨y4, ?_⟩
    have hs : dSet (.ref kn) (I x) (I j) m = .ok () (m.set kn (.lst (l.set x (I j)))) := v_setL h (ixN_n hx)
    have hb : wNum [some C, some (.ref kn), some (I j), some R3, some (I x)] m = .nx [some C, some (.ref kn), some (I j), some R3, some (I x)] (m.set kn (.lst (l.set x (I j)))) := by
      unfold wNum
      rw [v_asg, v_vs, v_vs, v_v0 (z := none), v_o, v_gS, v_vs, v_v0 (z := none), v_bind, v_vs, v_vs, v_vs, v_vs, v_v0 (z := none), v_bind, hs]
      rfl
    rw [List.map_cons, forL_nx (e2 := [some C, some (.ref kn), some (I j), some R3, some (I x)]) gd_nil rfl hb, ih, List.set_set]
    rfl
def numF : Nat → List (List Nat) → List D → List D
  | _, [], l => l
  | k, f :: fs, l => numF (k + 1) fs (setAll l f (I k))
theorem numF_len : ∀ (fs : List (List Nat)) (k : Nat) (l : List D), (numF k fs l).length = l.length
  | [], k, l => rfl
  | f :: fs, k, l => by
    show (numF (k + 1) fs (setAll l f (I k))).length = _
    rw [numF_len fs, setAll_len]
noncomputable def wNums : AS := sFor (iE (eVar 3)) (gN 4) wNum
theorem w_num2 {kn : Nat} {C : D} {gd : Gd} (hgd : ∀ p ∈ gd, p.1 ≠ kn) : ∀ (fs : List (List Nat)) (k : Nat) (l : List D) (m : Mem) (x2 x3 x4 : Option D), gd.Ok m → m[kn]? = some (.lst l) → (∀ f ∈ fs, ∀ e ∈ f, e < l.length) →
    ∃ y2 y3 y4, forL (gT 2 (gsCons (gN 2) (gsCons (gN 3) (gsNil)))) wNums gd (enk k (fs.map tI)) [some C, some (.ref kn), x2, x3, x4] m = .nx [some C, some (.ref kn), y2, y3, y4] (m.set kn (.lst (numF k fs l)))
  | [], k, l, m, x2, x3, x4, hg, h, _ => ⟨x2, x3, x4, by rw [List.map_nil, show enk k [] = [] from rfl, forL_nil hg, show numF k [] l = l from rfl, set_same h]⟩
  | f :: fs, k, l, m, x2, x3, x4, hg, h, hl => by
    obtain ⟨z4, h1⟩ := w_num1 (C := C) (R3 := tI f) (j := k) f l m x4 h (hl f List.mem_cons_self)
    obtain ⟨y2, y3, y4, ih⟩ := w_num2 hgd fs (k + 1) (setAll l f (I k)) (m.set kn (.lst (setAll l f (I k)))) (some (I k)) (some (tI f)) z4
      (fun p hp => by rw [List.getElem?_set_ne (Ne.symm (hgd p hp))]; exact hg p hp) (get_set h) (fun g hg' e he => by rw [setAll_len]; exact hl g (List.mem_cons_of_mem _ hg') e he)
    refine ⟨y2, y3, y4, ?_⟩
    have hb : wNums [some C, some (.ref kn), some (I k), some (tI f), x4] m = .nx [some C, some (.ref kn), some (I k), some (tI f), z4] (m.set kn (.lst (setAll l f (I k)))) := by
      unfold wNums
      rw [w_for, w_iE, v_vs, v_vs, v_vs, v_v0 (z := none), v_bind]
      show forL (gN 4) wNum [] (f.map I) _ m = _
      exact h1
    rw [List.map_cons, enk_cons, forL_nx (e2 := [some C, some (.ref kn), some (I k), some (tI f), x4]) hg rfl hb, ih, List.set_set]
    rfl
/-- the number of the rim of an angle -/
def numOf (fs : List (List Nat)) (e : Nat) : Nat := fs.findIdx fun f => decide (e ∈ f)
theorem numF_get : ∀ (fs : List (List Nat)) (k : Nat) (l : List D) (e : Nat), e < l.length → fs.flatten.Nodup → (numF k fs l)[e]? = if e ∈ fs.flatten then some (I (k + numOf fs e)) else l[e]?
  | [], k, l, e, h, _ => by simp [numF]
  | f :: fs, k, l, e, h, hn => by
    show (numF (k + 1) fs (setAll l f (I k)))[e]? = _
    rw [List.flatten_cons, List.nodup_append] at hn
    rw [numF_get fs (k + 1) _ e (by rw [setAll_len]; exact h) hn.2.1, setAll_get f _ l e h]
    unfold numOf
    rw [List.findIdx_cons]
    by_cases h1 : e ∈ f
    · have h2 : ¬ e ∈ fs.flatten := fun z => hn.2.2 e h1 e z rfl
      rw [if_neg h2, if_pos h1, if_pos (by rw [List.flatten_cons]; exact List.mem_append_left _ h1)]
      simp [h1]
    · by_cases h2 : e ∈ fs.flatten
      · rw [if_pos h2, if_pos (by rw [List.flatten_cons]; exact List.mem_append_right _ h2)]
        simp [h1]
        congr 1; omega
      · rw [if_neg h2, if_neg h1, if_neg (by rw [List.flatten_cons, List.mem_append]; simp [h1]; simpa using h2)]
theorem v_rep {m : Mem} {p n : Nat} {d : D} (h : m[p]? = some (.lst [d])) (hn : n < 10000) : dMul (.ref p) (.int (n : Int)) m = .ok (.ref m.length) (m ++ [.lst (List.replicate n d)]) := by
  unfold dMul
  dsimp only
  rw [h]
  dsimp only
  rw [if_pos ⟨by omega, by omega, by show 1 * ((n : Int)).toNat ≤ 2 ^ 24; simp; omega⟩]
  have : ∀ n : Nat, (List.replicate n [d]).flatten = List.replicate n d := by
    intro n
    induction n with
    | zero => rfl
    | succ n ih => rw [List.replicate_succ, List.flatten_cons, ih]; rfl
  simp [this]
theorem w_rim_numbers {c : Nat} {m : Mem} {P : Nat} {arr : List (Nat × Nat)} {rs rims : List (List Nat)} {o : Nat} {ps : List D} (C : ChI c m P arr rs o ps) (F : Ch.Flat rs rims (2 * arr.length)) (hn : arr.length ≤ 100) :
    Ok (f_rim_numbers [.ref c] m) fun d m' => ∃ k, d = .ref k ∧ Pre m m' ∧ m.length ≤ k ∧ m'[k]? = some (.lst ((List.range (2 * arr.length)).map fun e => I (numOf (rimsX rims (List.range (2 * arr.length))) e))) := by
  obtain ⟨m1, hm1⟩ : ∃ m1, m1 = m ++ [Cell.lst [.int 0]] := ⟨_, rfl⟩
  have p1 : Pre m m1 := by rw [hm1]; exact .add
  have q1 : m1[m.length]? = some (.lst [.int 0]) := by rw [hm1]; exact new_get
  obtain ⟨m2, hm2⟩ : ∃ m2, m2 = m1 ++ [Cell.lst (List.replicate (2 * arr.length) (.int 0))] := ⟨_, rfl⟩
  have p2 : Pre m1 m2 := by rw [hm2]; exact .add
  have q2 : m2[m1.length]? = some (.lst (List.replicate (2 * arr.length) (.int 0))) := by rw [hm2]; exact new_get
  have C2 := (C.pre p1).pre p2
  obtain ⟨_, m3, e3, k, rfl, p3, l3, q3, A3⟩ := ok_ex (w_rims_ch C2 F hn)
  obtain ⟨fs, hfs⟩ : ∃ fs, fs = rimsX rims (List.range (2 * arr.length)) := ⟨_, rfl⟩
  rw [← hfs] at A3 q3
  have hlen : m1.length = m.length + 1 := by rw [hm1]; simp
  have hlen2 : m2.length = m.length + 2 := by rw [hm2]; simp; omega
  have e2 : dMul (.ref m.length) (.int (2 * (arr.length : Int))) m1 = .ok (.ref m1.length) m2 := by
    rw [show (2 * (arr.length : Int)) = ((2 * arr.length : Nat) : Int) by omega, v_rep q1 (by omega), hm2]
  unfold f_rim_numbers afOf a_rim_numbers
  show Ok ((sSeq _ _ [some (.ref c), none, none, none, none] m).f) _
  have s1 : sAsg (eOp dMul (eCall mkLst (aCons (eC (.int 0)) (aNil))) (eOp dMul (eC (.int 2)) (eCall bLen (aCons (eFld "Chart" "arrows" (eVar 0)) (aNil))))) (gN 1) [some (.ref c), none, none, none, none] m = .nx [some (.ref c), some (.ref m1.length), none, none, none] m2 := by
    rw [v_asg, v_op, v_call, v_cons, v_c, v_bind, v_nil, v_bind, v_bind, mkL1, v_bind, ← hm1, v_op, v_c, v_bind, v_call, v_cons, (C.pre p1).f_arrows (v_v0 (z := none)), v_bind, v_nil, v_bind, v_bind, lenA, v_bind, mul2, v_bind, e2, v_o, v_gN, v_o]
    rfl
  rw [v_seq, s1, v_nx, v_seq]
  have hgd : Gd.Ok [(k, Cell.lst (fs.map tI))] m3 := gd_one q3
  have hN : (List.replicate (2 * arr.length) (D.int 0)).length = 2 * arr.length := by simp
  obtain ⟨y2, y3, y4, hfor⟩ := w_num2 (kn := m1.length) (C := .ref c) (gd := [(k, Cell.lst (fs.map tI))]) (fun p hp => by rw [List.mem_singleton.mp hp]; show k ≠ m1.length; omega) fs 0 (List.replicate (2 * arr.length) (.int 0)) m3 none none none hgd (p3 _ _ q2) (fun f hf e he => by rw [hN]; exact A3.lt f hf e he)
  have hit : iA enm (aCons (eCall f_rims (aCons (eVar 0) (aNil))) (aNil)) [some (.ref c), some (.ref m1.length), none, none, none] m2 = .ok (enk 0 (fs.map tI), [(k, Cell.lst (fs.map tI))]) m3 := by
    rw [w_iA, v_cons, v_call, v_cons, v_v0 (z := none), v_bind, v_nil, v_bind, v_bind, e3, v_bind, v_nil, v_bind, v_bind]
    unfold enm
    dsimp only
    rw [v_itL q3, v_bind, enumD_enk]
  rw [w_for, hit, v_o]
  show Ok ((O.seq (forL _ wNums _ _ _ _) _).f) _
  rw [hfor, v_nx, v_ret, v_vs, v_v0 (z := none), v_o, v_frt]
  refine ⟨m1.length, rfl, fun i cc e => ?_, by omega, ?_⟩
  · have := (List.getElem?_eq_some_iff.mp e).1
    rw [List.getElem?_set_ne (by omega)]
    exact p3 _ _ (p2 _ _ (p1 _ _ e))
  · rw [get_set (p3 _ _ q2), ← hfs]
    congr 2
    apply List.ext_getElem?
    intro e
    have hnd : fs.flatten.Nodup := A3.perm.nodup_iff.mpr List.nodup_range
    by_cases he : e < 2 * arr.length
    · rw [numF_get fs 0 _ e (by rw [hN]; exact he) hnd, if_pos (A3.perm.mem_iff.mpr (List.mem_range.mpr he)), List.getElem?_map, List.getElem?_range he]
      simp
    · rw [List.getElem?_eq_none (by rw [numF_len, hN]; omega), List.getElem?_eq_none (by simp; omega)]
end Cl
set_option Elab.async false
set_option linter.all false
set_option maxRecDepth 100000
namespace Cl
open PySem PySem.Spec PyProof.Rows L2 Ab
section
variable {c : Nat} {m : Mem} {P : Nat} {arr : List (Nat × Nat)} {rs rims : List (List Nat)} {o : Nat} {ps : List D}
theorem w_rim_of (C : ChI c m P arr rs o ps) (F : Ch.Flat rs rims (2 * arr.length)) (hn : arr.length ≤ 100) {e : Nat} (he : e < 2 * arr.length) :
    Ok (f_rim_of [.ref c, I e] m) fun d m' => d = I (numOf (rimsX rims (List.range (2 * arr.length))) e) ∧ Pre m m' := by
  have h1 : f_is_end [.ref c, I e] m = .ok (.bl true) m := by
    rw [w_is_end C (t := "int") rfl]
    simp [between, I]; omega
  obtain ⟨_, m2, e2, k, rfl, p2, l2, q2⟩ := ok_ex (w_rim_numbers C F hn)
  unfold f_rim_of afOf a_rim_of
  show Ok ((sSeq _ _ [some (.ref c), some (I e)] m).f) _
  have s1 : sIf (tNt (tVal (eCall f_is_end (aCons (eVar 0) (aCons (eVar 1) (aNil)))))) (sRaise0 "NoEnd") sSkip [some (.ref c), some (I e)] m = .nx [some (.ref c), some (I e)] m := by
    rw [v_sif, v_nt, v_val, v_call, v_cons, v_v0 (z := none), v_bind, v_cons, v_vs, v_v0 (z := none), v_bind, v_nil, v_bind, v_bind, v_bind, h1, v_bind, v_asB, v_bind, v_o]
    rfl
  have h3 : dIx (.ref k) (I e) m2 = .ok (I (numOf (rimsX rims (List.range (2 * arr.length))) e)) m2 := v_ixL q2 (atI_nat (by rw [List.getElem?_map, List.getElem?_range he]; rfl))
  rw [v_seq, s1, v_nx, v_ret, v_op, v_call, v_cons, v_v0 (z := none), v_bind, v_nil, v_bind, v_bind, e2, v_bind, v_vs, v_v0 (z := none), v_bind, h3, v_o, v_frt]
  exact ⟨rfl, p2⟩
theorem w_rim_of_no (C : ChI c m P arr rs o ps) {d : D} {t : String} (ht : tyN d m = some t) (hb : between d 0 (2 * (arr.length : Int) - 1) = false) : f_rim_of [.ref c, d] m = .er ⟨"NoEnd", none⟩ m := by
  unfold f_rim_of afOf a_rim_of
  show ((sSeq _ _ [some (.ref c), some d] m).f) = _
  have s1 : sIf (tNt (tVal (eCall f_is_end (aCons (eVar 0) (aCons (eVar 1) (aNil)))))) (sRaise0 "NoEnd") sSkip [some (.ref c), some d] m = .er ⟨"NoEnd", none⟩ [some (.ref c), some d] m := by
    rw [v_sif, v_nt, v_val, v_call, v_cons, v_v0 (z := none), v_bind, v_cons, v_vs, v_v0 (z := none), v_bind, v_nil, v_bind, v_bind, v_bind, w_is_end C ht, hb, v_bind, v_asB, v_bind, v_o]
    rfl
  rw [v_seq, s1, v_er, v_fer]
theorem w_sides (C : ChI c m P arr rs o ps) (F : Ch.Flat rs rims (2 * arr.length)) (hn : arr.length ≤ 100) {a : Nat} (ha : a < arr.length) :
    Ok (f_sides [.ref c, I a] m) fun d m' => d = .tup [I (numOf (rimsX rims (List.range (2 * arr.length))) (2 * a + 1)), I (numOf (rimsX rims (List.range (2 * arr.length))) (2 * a))] ∧ Pre m m' := by
  have h1 : f_is_between [I a, .int 0, .int ((arr.length : Int) - 1)] m = .ok (.bl true) m := betw (by omega) (by omega) m
  obtain ⟨_, m2, e2, k, rfl, p2, l2, q2⟩ := ok_ex (w_rim_numbers C F hn)
  unfold f_sides afOf a_sides
  show Ok ((sSeq _ _ [some (.ref c), some (I a), none] m).f) _
  have s1 : sIf (tNt (tVal (eCall f_is_between (aCons (eVar 1) (aCons (eC (.int 0)) (aCons (eOp dSub (eCall bLen (aCons (eFld "Chart" "arrows" (eVar 0)) (aNil))) (eC (.int 1))) (aNil))))))) (sRaise0 "NoArrow") sSkip [some (.ref c), some (I a), none] m = .nx [some (.ref c), some (I a), none] m := by
    rw [v_sif, v_nt, v_val, v_call, v_cons, v_vs, v_v0 (z := none), v_bind, v_cons, v_c, v_bind, v_cons, v_op, v_call, v_cons, C.f_arrows (v_v0 (z := none)), v_bind, v_nil, v_bind, v_bind, lenA, v_bind, v_c, v_bind]
    dsimp only [I]
    rw [v_sub, v_bind, v_nil, v_bind, v_bind, v_bind, v_bind, show f_is_between [D.int (a : Int), .int 0, .int ((arr.length : Int) - 1)] m = _ from h1, v_bind, v_asB, v_bind, v_o]
    rfl
  have s2 : sAsg (eCall f_rim_numbers (aCons (eVar 0) (aNil))) (gN 2) [some (.ref c), some (I a), none] m = .nx [some (.ref c), some (I a), some (.ref k)] m2 := by
    rw [v_asg, v_call, v_cons, v_v0 (z := none), v_bind, v_nil, v_bind, v_bind, e2, v_o, v_gN, v_o]
    rfl
  have ix : ∀ e : Nat, e < 2 * arr.length → dIx (.ref k) (.int (e : Int)) m2 = .ok (I (numOf (rimsX rims (List.range (2 * arr.length))) e)) m2 := fun e he => v_ixL q2 (atI_nat (by rw [List.getElem?_map, List.getElem?_range he]; rfl))
  have i1 := ix (2 * a + 1) (by omega)
  have i2 := ix (2 * a) (by omega)
  rw [show ((2 * a + 1 : Nat) : Int) = 2 * (a : Int) + 1 by omega] at i1
  rw [show ((2 * a : Nat) : Int) = 2 * (a : Int) by omega] at i2
  rw [v_seq, s1, v_nx, v_seq, s2, v_nx, v_ret, v_call, v_cons, v_op, v_vs, v_vs, v_v0 (z := none), v_bind, v_op, v_op, v_c, v_bind, v_vs, v_v0 (z := none), v_bind, mul2, v_bind, v_c, v_bind, v_add, v_bind, i1, v_bind, v_cons, v_op, v_vs, v_vs, v_v0 (z := none), v_bind, v_op, v_c, v_bind, v_vs, v_v0 (z := none), v_bind, mul2, v_bind, i2, v_bind, v_nil, v_bind, v_bind, v_bind, mk2, v_o, v_frt]
  exact ⟨rfl, p2⟩
theorem w_sides_no (C : ChI c m P arr rs o ps) {d : D} {t : String} (ht : tyN d m = some t) (hb : between d 0 ((arr.length : Int) - 1) = false) : f_sides [.ref c, d] m = .er ⟨"NoArrow", none⟩ m := by
  unfold f_sides afOf a_sides
  show ((sSeq _ _ [some (.ref c), some d, none] m).f) = _
  have s1 : sIf (tNt (tVal (eCall f_is_between (aCons (eVar 1) (aCons (eC (.int 0)) (aCons (eOp dSub (eCall bLen (aCons (eFld "Chart" "arrows" (eVar 0)) (aNil))) (eC (.int 1))) (aNil))))))) (sRaise0 "NoArrow") sSkip [some (.ref c), some d, none] m = .er ⟨"NoArrow", none⟩ [some (.ref c), some d, none] m := by
    rw [v_sif, v_nt, v_val, v_call, v_cons, v_vs, v_v0 (z := none), v_bind, v_cons, v_c, v_bind, v_cons, v_op, v_call, v_cons, C.f_arrows (v_v0 (z := none)), v_bind, v_nil, v_bind, v_bind, lenA, v_bind, v_c, v_bind]
    dsimp only [I]
    rw [v_sub, v_bind, v_nil, v_bind, v_bind, v_bind, v_bind, w_is_between ht, hb, v_bind, v_asB, v_bind, v_o]
    rfl
  rw [v_seq, s1, v_er, v_fer]
end
/-! ### words -/
def wordX (x y : Nat) : Str := if x % 2 ≠ y % 2 then "straight" else if x % 2 = 0 then "fork" else "meet"
theorem v_mod2 (x : Nat) (m : Mem) : dMod (I x) (.int 2) m = .ok (I (x % 2)) m := by
  show dMod (.int (x : Int)) (.int 2) m = _
  rw [v_mod (by decide), Int.fmod_eq_emod_of_nonneg _ (by decide)]
  unfold I
  congr 2
theorem v_sifT {t : AT} {s s' : AS} {e : Env'} {m m1 : Mem} (h : t e m = .ok true m1) : sIf t s s' e m = s e m1 := by rw [v_sif, h, v_o, if_pos rfl]
theorem v_sifF {t : AT} {s s' : AS} {e : Env'} {m m1 : Mem} (h : t e m = .ok false m1) : sIf t s s' e m = s' e m1 := by rw [v_sif, h, v_o, if_neg Bool.false_ne_true]
theorem w_eqII (a b : Nat) (m : Mem) : dEq (I a) (I b) m = .ok (.bl (decide (a = b))) m := by
  rw [show dEq (I a) (I b) m = _ from w_eqI]
  congr 2
  exact decide_eq_decide.mpr ⟨fun q => by omega, fun q => by omega⟩
theorem w_word_between (x y : Nat) (m : Mem) : f_word_between [I x, I y] m = .ok (.str (wordX x y)) m := by
  unfold f_word_between afOf a_word_between
  show ((sSeq _ _ [some (I x), some (I y)] m).f) = _
  have e0 : dEq (I (x % 2)) (.int 0) m = .ok (.bl (decide (x % 2 = 0))) m := w_eqII (x % 2) 0 m
  have t1 : tVal (eOp dNe (eOp dMod (eVar 0) (eC (.int 2))) (eOp dMod (eVar 1) (eC (.int 2)))) [some (I x), some (I y)] m = .ok (!decide (x % 2 = y % 2)) m := by
    rw [v_val, v_op, v_op, v_v0 (z := none), v_bind, v_c, v_bind, v_mod2, v_bind, v_op, v_vs, v_v0 (z := none), v_bind, v_c, v_bind, v_mod2, v_bind, w_neII, v_bind, v_asB]
  have t2 : tVal (eOp dEq (eOp dMod (eVar 0) (eC (.int 2))) (eC (.int 0))) [some (I x), some (I y)] m = .ok (decide (x % 2 = 0)) m := by
    rw [v_val, v_op, v_op, v_v0 (z := none), v_bind, v_c, v_bind, v_mod2, v_bind, v_c, v_bind, e0, v_bind, v_asB]
  unfold wordX
  by_cases h1 : x % 2 = y % 2
  · rw [decide_eq_true h1] at t1
    rw [v_seq, v_sifF t1, v_skip, v_nx, v_seq, if_neg (fun z => z h1)]
    by_cases h2 : x % 2 = 0
    · rw [decide_eq_true h2] at t2
      rw [v_sifT t2, v_ret, v_c, v_o, v_rt, v_frt, if_pos h2]
    · rw [decide_eq_false h2] at t2
      rw [v_sifF t2, v_skip, v_nx, v_ret, v_c, v_o, v_frt, if_neg h2]
  · rw [decide_eq_false h1] at t1
    rw [v_seq, v_sifT t1, v_ret, v_c, v_o, v_rt, v_frt, if_pos h1]
noncomputable def wWd : AS := sAsg (eCall f_word_between (aCons (eOp dIx (eVar 2) (eOp dSub (eVar 3) (eC (.int 1)))) (aCons (eVar 4) (aNil)))) (gS dSet (eVar 1) (eOp dIx (eVar 2) (eOp dSub (eVar 3) (eC (.int 1)))))
noncomputable def wdAll (rs : List (List Nat)) (l : List D) (ys : List Nat) : List D := ys.foldl (fun l y => l.set (Ch.prd rs y) (.str (wordX (Ch.prd rs y) y))) l
theorem wdAll_len (rs : List (List Nat)) : ∀ (ys : List Nat) (l : List D), (wdAll rs l ys).length = l.length
  | [], l => rfl
  | y :: ys, l => by
    show (wdAll rs (l.set _ _) ys).length = _
    rw [wdAll_len rs ys]; simp
theorem w_wd1 {rs : List (List Nat)} (hn : rs.flatten.Nodup) {r : List Nat} (hr : r ∈ rs) {N kn : Nat} (hN : ∀ y ∈ rs.flatten, Ch.prd rs y < N) {C : D} : ∀ (b a : List Nat) (l : List D) (m : Mem) (x3 x4 : Option D), r = a ++ b → l.length = N → m[kn]? = some (.lst l) →
    ∃ y3 y4, forL (gT 2 (gsCons (gN 3) (gsCons (gN 4) (gsNil)))) wWd [] (enk a.length (b.map I)) [some C, some (.ref kn), some (tI r), x3, x4] m = .nx [some C, some (.ref kn), some (tI r), y3, y4] (m.set kn (.lst (wdAll rs l b)))
  | [], a, l, m, x3, x4, _, _, h => ⟨x3, x4, by rw [List.map_nil, show enk a.length [] = [] from rfl, forL_nil gd_nil, show wdAll rs l [] = l from rfl, set_same h]⟩
  | y :: b, a, l, m, x3, x4, e, hl, h => by
    have hi : a.length < r.length := by rw [e]; simp
    have hy : r[a.length] = y := by simp [e]
    have hym : y ∈ rs.flatten := List.mem_flatten.mpr ⟨r, hr, by rw [e]; simp⟩
    have hp := hN y hym
    have hx : ∀ m, dIx (tI r) (.int ((a.length : Int) - 1)) m = .ok (I (Ch.prd rs y)) m := fun m => v_ixT (by rw [atI_prev hn hr hi, hy])
    obtain ⟨y3, y4, ih⟩ := w_wd1 hn hr hN (kn := kn) (C := C) b (a ++ [y]) (l.set (Ch.prd rs y) (.str (wordX (Ch.prd rs y) y))) (m.set kn (.lst (l.set (Ch.prd rs y) (.str (wordX (Ch.prd rs y) y))))) (some (I a.length)) (some (I y)) (by simp [e]) (by simpa using hl) (get_set h)
    refine ⟨y3, y4, ?_⟩
    have hs : dSet (.ref kn) (I (Ch.prd rs y)) (.str (wordX (Ch.prd rs y) y)) m = .ok () (m.set kn (.lst (l.set (Ch.prd rs y) (.str (wordX (Ch.prd rs y) y))))) := v_setL h (ixN_n (by omega))
    have hb : wWd [some C, some (.ref kn), some (tI r), some (I a.length), some (I y)] m = .nx [some C, some (.ref kn), some (tI r), some (I a.length), some (I y)] (m.set kn (.lst (l.set (Ch.prd rs y) (.str (wordX (Ch.prd rs y) y))))) := by
      unfold wWd
      rw [v_asg, v_call, v_cons, v_op, v_vs, v_vs, v_v0 (z := none), v_bind, v_op, v_vs, v_vs, v_vs, v_v0 (z := none), v_bind, v_c, v_bind, show dSub (I a.length) (.int 1) m = .ok (.int ((a.length : Int) - 1)) m from rfl, v_bind, hx, v_bind, v_cons, v_vs, v_vs, v_vs, v_vs, v_v0 (z := none), v_bind, v_nil, v_bind, v_bind, v_bind, w_word_between, v_o, v_gS, v_vs, v_v0 (z := none), v_bind, v_op, v_vs, v_vs, v_v0 (z := none), v_bind, v_op, v_vs, v_vs, v_vs, v_v0 (z := none), v_bind, v_c, v_bind, show dSub (I a.length) (.int 1) m = .ok (.int ((a.length : Int) - 1)) m from rfl, v_bind, hx, v_bind, hs]
      rfl
    rw [List.map_cons, enk_cons, forL_nx (e2 := [some C, some (.ref kn), some (tI r), some (I a.length), some (I y)]) gd_nil rfl hb]
    rw [show a.length + 1 = (a ++ [y]).length by simp, ih, List.set_set]
    rfl
noncomputable def wWds : AS := sFor (iA enm (aCons (eVar 2) (aNil))) (gT 2 (gsCons (gN 3) (gsCons (gN 4) (gsNil)))) wWd
theorem w_wd2 {rs : List (List Nat)} (hn : rs.flatten.Nodup) {N kn : Nat} (hN : ∀ y ∈ rs.flatten, Ch.prd rs y < N) {C : D} : ∀ (q : List (List Nat)) (l : List D) (m : Mem) (x2 x3 x4 : Option D), (∀ r ∈ q, r ∈ rs) → l.length = N → m[kn]? = some (.lst l) →
    ∃ y2 y3 y4, forL (gN 2) wWds [] (q.map tI) [some C, some (.ref kn), x2, x3, x4] m = .nx [some C, some (.ref kn), y2, y3, y4] (m.set kn (.lst (wdAll rs l q.flatten)))
  | [], l, m, x2, x3, x4, _, _, h => ⟨x2, x3, x4, by rw [List.map_nil, forL_nil gd_nil, show wdAll rs l (List.flatten []) = l from rfl, set_same h]⟩
  | r :: q, l, m, x2, x3, x4, hq, hl, h => by
    obtain ⟨z3, z4, h1⟩ := w_wd1 hn (hq r List.mem_cons_self) hN (kn := kn) (C := C) r [] l m x3 x4 rfl hl h
    obtain ⟨y2, y3, y4, ih⟩ := w_wd2 hn hN (kn := kn) (C := C) q (wdAll rs l r) (m.set kn (.lst (wdAll rs l r))) (some (tI r)) z3 z4 (fun r' h' => hq r' (List.mem_cons_of_mem _ h')) (by rw [wdAll_len]; exact hl) (get_set h)
    refine ⟨y2, y3, y4, ?_⟩
    have hb : wWds [some C, some (.ref kn), some (tI r), x3, x4] m = .nx [some C, some (.ref kn), some (tI r), z3, z4] (m.set kn (.lst (wdAll rs l r))) := by
      unfold wWds
      rw [w_for, w_iA, v_cons, v_vs, v_vs, v_v0 (z := none), v_bind, v_nil, v_bind, v_bind]
      show forL _ wWd [] (enumD (r.map I)) _ m = _
      rw [enumD_enk]
      exact h1
    rw [List.map_cons, forL_nx (e2 := [some C, some (.ref kn), some (tI r), x3, x4]) gd_nil rfl hb, ih, List.set_set]
    unfold wdAll
    rw [List.flatten_cons, List.foldl_append]
theorem prd_lt {rs : List (List Nat)} {rims : List (List Nat)} {N : Nat} (F : Ch.Flat rs rims N) {y : Nat} (h : y ∈ rs.flatten) : Ch.prd rs y < N := by
  obtain ⟨r, hr, hy⟩ := List.mem_flatten.mp h
  obtain ⟨i, hi, e⟩ := List.getElem_of_mem hy
  have hP : ∃ x, Ch.P rs x y := by
    cases i with
    | zero => exact ⟨_, r, hr, by have := Ch.cy_end (r := r) (by omega); rw [e] at this; exact this⟩
    | succ i => exact ⟨_, r, hr, by have := Ch.cy_idx (r := r) (i := i) hi; rw [e] at this; exact this⟩
  obtain ⟨x, hP⟩ := hP
  rw [Ch.prd_eq F.nd hP]
  obtain ⟨r2, hr2, hc⟩ := hP
  exact List.mem_range.mp (F.rN.mem_iff.mp (List.mem_flatten.mpr ⟨r2, hr2, (Ch.cy_mem hc).1⟩))
noncomputable def wdsX (rs : List (List Nat)) (N : Nat) : List D := wdAll rs (List.replicate N (.str "")) rs.flatten
theorem wdsX_len (rs : List (List Nat)) (N : Nat) : (wdsX rs N).length = N := by unfold wdsX; rw [wdAll_len]; simp
section
variable {c : Nat} {m : Mem} {P : Nat} {arr : List (Nat × Nat)} {rs rims : List (List Nat)} {o : Nat} {ps : List D}
theorem w_words (C : ChI c m P arr rs o ps) (F : Ch.Flat rs rims (2 * arr.length)) (hn : arr.length ≤ 100) :
    Ok (f_words [.ref c] m) fun d m' => ∃ k, d = .ref k ∧ Pre m m' ∧ m.length ≤ k ∧ m'[k]? = some (.lst (wdsX rs (2 * arr.length))) := by
  obtain ⟨m1, hm1⟩ : ∃ m1, m1 = m ++ [Cell.lst [.str ""]] := ⟨_, rfl⟩
  have p1 : Pre m m1 := by rw [hm1]; exact .add
  have q1 : m1[m.length]? = some (.lst [.str ""]) := by rw [hm1]; exact new_get
  obtain ⟨m2, hm2⟩ : ∃ m2, m2 = m1 ++ [Cell.lst (List.replicate (2 * arr.length) (.str ""))] := ⟨_, rfl⟩
  have p2 : Pre m1 m2 := by rw [hm2]; exact .add
  have q2 : m2[m1.length]? = some (.lst (List.replicate (2 * arr.length) (.str ""))) := by rw [hm2]; exact new_get
  have C2 := (C.pre p1).pre p2
  have hlen : m1.length = m.length + 1 := by rw [hm1]; simp
  have e2 : dMul (.ref m.length) (.int (2 * (arr.length : Int))) m1 = .ok (.ref m1.length) m2 := by
    rw [show (2 * (arr.length : Int)) = ((2 * arr.length : Nat) : Int) by omega, v_rep q1 (by omega), hm2]
  obtain ⟨y2, y3, y4, hfor⟩ := w_wd2 (rs := rs) F.nd (N := 2 * arr.length) (kn := m1.length) (C := .ref c) (fun y hy => prd_lt F hy) rs (List.replicate (2 * arr.length) (.str "")) m2 none none none (fun _ h => h) (by simp) q2
  unfold f_words afOf a_words
  show Ok ((sSeq _ _ [some (.ref c), none, none, none, none] m).f) _
  have s1 : sAsg (eOp dMul (eCall mkLst (aCons (eC (.str "")) (aNil))) (eOp dMul (eC (.int 2)) (eCall bLen (aCons (eFld "Chart" "arrows" (eVar 0)) (aNil))))) (gN 1) [some (.ref c), none, none, none, none] m = .nx [some (.ref c), some (.ref m1.length), none, none, none] m2 := by
    rw [v_asg, v_op, v_call, v_cons, v_c, v_bind, v_nil, v_bind, v_bind, mkL1, v_bind, ← hm1, v_op, v_c, v_bind, v_call, v_cons, (C.pre p1).f_arrows (v_v0 (z := none)), v_bind, v_nil, v_bind, v_bind, lenA, v_bind, mul2, v_bind, e2, v_o, v_gN, v_o]
    rfl
  have hit : iE (eFld "Chart" "rounds" (eVar 0)) [some (.ref c), some (.ref m1.length), none, none, none] m2 = .ok (rs.map tI, []) m2 := by
    rw [w_iE, C2.f_rounds (v_v0 (z := none)), v_bind, w_itT]
  rw [v_seq, s1, v_nx, v_seq, w_for, hit, v_o]
  show Ok ((O.seq (forL _ wWds _ _ _ _) _).f) _
  rw [hfor, v_nx, v_ret, v_vs, v_v0 (z := none), v_o, v_frt]
  refine ⟨m1.length, rfl, fun i cc e => ?_, by omega, get_set q2⟩
  have := (List.getElem?_eq_some_iff.mp e).1
  rw [List.getElem?_set_ne (by omega)]
  exact p2 _ _ (p1 _ _ e)
theorem w_word_at (C : ChI c m P arr rs o ps) (F : Ch.Flat rs rims (2 * arr.length)) (hn : arr.length ≤ 100) {e : Nat} (he : e < 2 * arr.length) :
    Ok (f_word_at [.ref c, I e] m) fun d m' => (wdsX rs (2 * arr.length))[e]? = some d ∧ Pre m m' := by
  have h1 : f_is_end [.ref c, I e] m = .ok (.bl true) m := by
    rw [w_is_end C (t := "int") rfl]
    simp [between, I]; omega
  obtain ⟨_, m2, e2, k, rfl, p2, l2, q2⟩ := ok_ex (w_words C F hn)
  have hl : e < (wdsX rs (2 * arr.length)).length := by rw [wdsX_len]; exact he
  unfold f_word_at afOf a_word_at
  show Ok ((sSeq _ _ [some (.ref c), some (I e)] m).f) _
  have s1 : sIf (tNt (tVal (eCall f_is_end (aCons (eVar 0) (aCons (eVar 1) (aNil)))))) (sRaise0 "NoEnd") sSkip [some (.ref c), some (I e)] m = .nx [some (.ref c), some (I e)] m := by
    rw [v_sif, v_nt, v_val, v_call, v_cons, v_v0 (z := none), v_bind, v_cons, v_vs, v_v0 (z := none), v_bind, v_nil, v_bind, v_bind, v_bind, h1, v_bind, v_asB, v_bind, v_o]
    rfl
  have h3 : dIx (.ref k) (I e) m2 = .ok (wdsX rs (2 * arr.length))[e] m2 := v_ixL q2 (atI_nat (List.getElem?_eq_getElem hl))
  rw [v_seq, s1, v_nx, v_ret, v_op, v_call, v_cons, v_v0 (z := none), v_bind, v_nil, v_bind, v_bind, e2, v_bind, v_vs, v_v0 (z := none), v_bind, h3, v_o, v_frt]
  exact ⟨List.getElem?_eq_getElem hl, p2⟩
theorem w_word_at_no (C : ChI c m P arr rs o ps) {d : D} {t : String} (ht : tyN d m = some t) (hb : between d 0 (2 * (arr.length : Int) - 1) = false) : f_word_at [.ref c, d] m = .er ⟨"NoEnd", none⟩ m := by
  unfold f_word_at afOf a_word_at
  show ((sSeq _ _ [some (.ref c), some d] m).f) = _
  have s1 : sIf (tNt (tVal (eCall f_is_end (aCons (eVar 0) (aCons (eVar 1) (aNil)))))) (sRaise0 "NoEnd") sSkip [some (.ref c), some d] m = .er ⟨"NoEnd", none⟩ [some (.ref c), some d] m := by
    rw [v_sif, v_nt, v_val, v_call, v_cons, v_v0 (z := none), v_bind, v_cons, v_vs, v_v0 (z := none), v_bind, v_nil, v_bind, v_bind, v_bind, w_is_end C ht, hb, v_bind, v_asB, v_bind, v_o]
    rfl
  rw [v_seq, s1, v_er, v_fer]
end
end Cl
set_option Elab.async false
set_option linter.all false
set_option maxRecDepth 100000
namespace Cl
open PySem PySem.Spec PyProof.Rows L2 Ab
theorem a_c {a : AE} {aa : AA} {e : Env'} {m m1 m2 : Mem} {x : D} {xs : List D} (h1 : a e m = .ok x m1) (h2 : aa e m1 = .ok xs m2) : aCons a aa e m = .ok (x :: xs) m2 := by rw [v_cons, h1, v_bind, h2, v_bind]
theorem e_op {f : F2} {a b : AE} {e : Env'} {m m1 m2 : Mem} {x y : D} {r : R D} (h1 : a e m = .ok x m1) (h2 : b e m1 = .ok y m2) (h3 : f x y m2 = r) : eOp f a b e m = r := by rw [v_op, h1, v_bind, h2, v_bind, h3]
theorem e_call {f : FL} {aa : AA} {e : Env'} {m m1 : Mem} {xs : List D} {r : R D} (h1 : aa e m = .ok xs m1) (h2 : f xs m1 = r) : eCall f aa e m = r := by rw [v_call, h1, v_bind, h2]
theorem s_asg {a : AE} {i : Nat} {e : Env'} {m m1 : Mem} {x : D} (h1 : a e m = .ok x m1) : sAsg a (gN i) e m = .nx (e.set i (some x)) m1 := by rw [v_asg, h1, v_o, v_gN, v_o]
theorem t_v {a : AE} {e : Env'} {m m1 : Mem} {b : Bool} (h : a e m = .ok (.bl b) m1) : tVal a e m = .ok b m1 := by rw [v_val, h, v_bind, v_asB]
theorem t_nt {t : AT} {e : Env'} {m m1 : Mem} {b : Bool} (h : t e m = .ok b m1) : tNt t e m = .ok (!b) m1 := by rw [v_nt, h, v_bind]
theorem t_anT {t u : AT} {e : Env'} {m m1 m2 : Mem} {b : Bool} (h : t e m = .ok true m1) (h2 : u e m1 = .ok b m2) : tAn t u e m = .ok b m2 := by rw [v_an, h, v_bind, if_pos rfl, h2]
theorem t_anF {t u : AT} {e : Env'} {m m1 : Mem} (h : t e m = .ok false m1) : tAn t u e m = .ok false m1 := by rw [v_an, h, v_bind, if_neg Bool.false_ne_true]
theorem t_orT {t u : AT} {e : Env'} {m m1 : Mem} (h : t e m = .ok true m1) : tOrr t u e m = .ok true m1 := by rw [v_or, h, v_bind, if_pos rfl]
theorem t_orF {t u : AT} {e : Env'} {m m1 m2 : Mem} {b : Bool} (h : t e m = .ok false m1) (h2 : u e m1 = .ok b m2) : tOrr t u e m = .ok b m2 := by rw [v_or, h, v_bind, if_neg Bool.false_ne_true, h2]
theorem s_ret {a : AE} {e : Env'} {m m1 : Mem} {x : D} (h : a e m = .ok x m1) : sRet a e m = .rt x m1 := by rw [v_ret, h, v_o]
theorem s_exp {a : AE} {e : Env'} {m m1 : Mem} {x : D} (h : a e m = .ok x m1) : sExp a e m = .nx e m1 := by rw [v_exp, h, v_o]
theorem e_mt {ty : D → Mem → Bool} {F : D → FL} {a : AE} {aa : AA} {e : Env'} {m m1 m2 : Mem} {x : D} {xs : List D} {r : R D} (h1 : a e m = .ok x m1) (ht : ty x m1 = true) (h2 : aa e m1 = .ok xs m2) (h3 : F x xs m2 = r) : eMt ty F a aa e m = r := by rw [w_mt, h1, v_bind, if_pos ht, h2, v_bind, h3]
theorem e_ifT {t : AT} {a b : AE} {e : Env'} {m m1 : Mem} (h : t e m = .ok true m1) : eIf t a b e m = a e m1 := by rw [v_if, h, v_bind, if_pos rfl]
theorem e_ifF {t : AT} {a b : AE} {e : Env'} {m m1 : Mem} (h : t e m = .ok false m1) : eIf t a b e m = b e m1 := by rw [v_if, h, v_bind, if_neg Bool.false_ne_true]
/-- returns, or goes on -/
def Rn (o : O) (QR : D → Mem → Prop) (QN : Env' → Mem → Prop) : Prop := match o with
  | .rt d m => QR d m
  | .nx e m => QN e m
  | _ => False
theorem rn_seq {o : O} {s : AS} {QR : D → Mem → Prop} {QN : Env' → Mem → Prop} (h : Rn o QR fun e m => Rn (s e m) QR QN) : Rn (o.seq s) QR QN := by cases o <;> first | exact h | exact h.elim
theorem rn_f {o : O} {s : AS} {Q : D → Mem → Prop} (h : Rn o Q fun e m => Ok (s e m).f Q) : Ok (o.seq s).f Q := by cases o <;> first | exact h | exact h.elim
theorem rn_mono {o : O} {QR QR' : D → Mem → Prop} {QN QN' : Env' → Mem → Prop} (h : Rn o QR QN) (k1 : ∀ d m, QR d m → QR' d m) (k2 : ∀ e m, QN e m → QN' e m) : Rn o QR' QN' := by cases o <;> first | exact k1 _ _ h | exact k2 _ _ h | exact h.elim
theorem forL_rn {tg : AG} {b : AS} {gd : Gd} {QR : D → Mem → Prop} (Inv : List D → Env' → Mem → Prop) (hs : ∀ d r e m, Inv (d :: r) e m → gd.Ok m ∧ ∃ e2, tg d e m = .ok e2 m ∧ Rn (b e2 m) QR (Inv r)) (hf : ∀ e m, Inv [] e m → gd.Ok m) :
    ∀ (ds : List D) (e : Env') (m : Mem), Inv ds e m → Rn (forL tg b gd ds e m) QR (Inv [])
  | [], e, m, h => by
    unfold forL
    rw [if_pos (hf e m h)]
    exact h
  | d :: r, e, m, h => by
    obtain ⟨h1, e2, h2, h3⟩ := hs d r e m h
    unfold forL
    rw [if_pos h1, h2]
    show Rn (match b e2 m with | .nx e m => forL tg b gd r e m | .ct e m => forL tg b gd r e m | .bk e m => .nx e m | .rt d m => .rt d m | .er x e m => .er x e m | .no => .no) _ _
    cases h4 : b e2 m with
    | nx e3 m3 => rw [h4] at h3; exact forL_rn Inv hs hf r e3 m3 h3
    | rt e3 m3 => rw [h4] at h3; exact h3
    | _ => rw [h4] at h3; exact h3.elim
/-! ### how often the way turns round a place -/
def pv (r : List Nat) (i : Nat) : Nat := r.getD (if i = 0 then r.length - 1 else i - 1) 0
theorem atI_pv {r : List Nat} {i : Nat} (hi : i < r.length) : atI (r.map I) ((i : Int) - 1) = some (I (pv r i)) := by
  unfold pv
  cases i with
  | zero =>
    rw [if_pos rfl]
    unfold atI ixN
    rw [if_neg (by omega), if_pos (by simp; omega)]
    have h1 : ((((0 : Nat) : Int) - 1 + ((r.map I).length : Int)).toNat) = r.length - 1 := by simp; omega
    rw [h1, Option.bind_some, List.getElem?_map, List.getElem?_eq_getElem (by omega)]
    simp [List.getD, List.getElem?_eq_getElem (show r.length - 1 < r.length by omega)]
  | succ i =>
    rw [if_neg (by omega), show ((i + 1 : Nat) : Int) - 1 = (i : Int) by omega]
    refine atI_nat ?_
    rw [List.getElem?_map, List.getElem?_eq_getElem (by omega)]
    simp [List.getD, List.getElem?_eq_getElem (show i < r.length by omega)]
def strI (r : List Nat) : List Nat := (List.range r.length).filter fun i => decide (pv r i % 2 ≠ r.getD i 0 % 2)
theorem w_straights {m : Mem} {k : Nat} {r : List Nat} (h : m[k]? = some (.lst (r.map I))) (hl : r.length < 1000) : Ok (f_law_straights [.ref k] m) fun d m' => d = I (strI r).length ∧ Pre m m' := by
  have hx : (aCons (eCall bLen (aCons (eVar 0) (aNil))) (aNil)) [some (.ref k), none] m = .ok [I r.length] m := a_c (e_call (a_c rfl rfl) (by rw [v_lenL h]; simp [I])) rfl
  have e1 := lc_eq (it := iA rng1 (aCons (eCall bLen (aCons (eVar 0) (aNil))) (aNil))) (tg := gN 1) (tt := tVal (eOp dNe (eOp dMod (eCall bInt (aCons (eOp dIx (eVar 0) (eVar 1)) (aNil))) (eC (.int 2))) (eOp dMod (eCall bInt (aCons (eOp dIx (eVar 0) (eOp dSub (eVar 1) (eC (.int 1)))) (aNil))) (eC (.int 2))))) (el := eVar 1) (vs := [1]) (e := [some (.ref k), none]) (m := m) (fun i : Nat => D.int (i : Int)) (List.range r.length) (fun i => decide (pv r i % 2 ≠ r.getD i 0 % 2)) I (w_rng1 hx hl) rfl (fun acc => gd_nil) (by simp; omega) (fun i hi acc => by
    have hi' := List.mem_range.mp hi
    have hk : (m ++ [Cell.lst acc])[k]? = some (.lst (r.map I)) := Pre.add _ _ h
    have x1 : dIx (.ref k) (I i) (m ++ [Cell.lst acc]) = .ok (I (r.getD i 0)) (m ++ [Cell.lst acc]) := v_ixL hk (atI_nat (by rw [List.getElem?_map, List.getElem?_eq_getElem hi']; simp [List.getD, List.getElem?_eq_getElem hi']))
    have x2 : dIx (.ref k) (.int ((i : Int) - 1)) (m ++ [Cell.lst acc]) = .ok (I (pv r i)) (m ++ [Cell.lst acc]) := v_ixL hk (atI_pv hi')
    refine ⟨[some (.ref k), some (I i)], rfl, t_v ?_, fun _ => rfl⟩
    rw [e_op (e_op (e_call (a_c (e_op rfl rfl x1) rfl) rfl) rfl (v_mod2 _ _)) (e_op (e_call (a_c (e_op rfl (e_op rfl rfl rfl) x2) rfl) rfl) rfl (v_mod2 _ _)) (w_neII _ _ _)]
    congr 2
    by_cases z : r.getD i 0 % 2 = pv r i % 2
    · rw [decide_eq_true z, decide_eq_false (by omega)]; rfl
    · rw [decide_eq_false z, decide_eq_true (by omega)]; rfl)
  unfold f_law_straights afOf a_law_straights
  show Ok ((sRet _ [some (.ref k), none] m).f) _
  rw [s_ret (e_call (a_c e1 rfl) (v_lenL new_get)), v_frt]
  refine ⟨?_, .add⟩
  unfold strI
  simp [I]

theorem HandOK.lt2 {h : Nat} {m : Mem} (H : HandOK h m) : h < m.length := by
  obtain ⟨c, H⟩ := H.ex
  exact H.lt.1
end Cl
set_option Elab.async false
set_option linter.all false
set_option maxRecDepth 100000
namespace Cl
open PySem PySem.Spec PyProof.Rows L2 Ab
/-! # charts grow, tangled ones or not -/
noncomputable def hThen : AS :=
    (sSeq (sAsg (eIf (tVal (eOp dEq (eOp dMod (eCall bInt (aCons (eVar 7) (aNil))) (eC (.int 2))) (eC (.int 0)))) (eCall mkTup (aCons (eVar 5) (aCons (eCall bLen (aCons (eVar 2) (aNil))) (aNil)))) (eCall mkTup (aCons (eCall bLen (aCons (eVar 2) (aNil))) (aCons (eVar 5) (aNil))))) (gN 9))
    (sSeq (sAsg (eOp dAdd (eOp dAdd (eOp dAdd (eSl (eVar 2) (oNone) (oSome (eVar 5))) (eCall mkLst (aCons (eVar 8) (aNil)))) (eSl (eVar 2) (oSome (eOp dAdd (eVar 5) (eC (.int 1)))) (oNone))) (eCall mkLst (aCons (eCall mkLst (aCons (eCall f_law_other (aCons (eVar 7) (aNil))) (aNil))) (aNil)))) (gN 10))
    (sRet (eCall mkTup (aCons (eOp dAdd (eVar 1) (eCall mkLst (aCons (eVar 9) (aNil)))) (aCons (eVar 10) (aNil)))))))
theorem hung_then {h : Nat} {m m2 m3 : Mem} {ra rr kn a x : Nat} {arr : List (Nat × Nat)} {rs : List (List Nat)} {r : List Nat} {ks : List Nat} {x3 x6 x9 x10 : Option D} (f02 : Fr h m m2) (H2 : HandOK h m2) (C2 : ChM h m2 ra rr arr rs) (g : G arr rs) (hb : arr.length < 100) (ha' : a < 2 * arr.length) (hr : rs[pl arr a]? = some r) (hx2 : x = 2 * arr.length ∨ x = 2 * arr.length + 1)
    (k1 : m2[rr]? = some (.lst (ks.map D.ref))) (k2 : ks.length = rs.length) (k3 : ∀ (i k : Nat) (r : List Nat), ks[i]? = some k → rs[i]? = some r → m2[k]? = some (.lst (r.map I)) ∧ k ≠ h) (p3 : Pre m2 m3) (kl : m2.length ≤ kn) (kg : m3[kn]? = some (.lst ((Ch.put r a x).map I))) :
    Rt (hThen [some (.ref h), some (.ref ra), some (.ref rr), x3, some (I a), some (I (pl arr a)), x6, some (I x), some (.ref kn), x9, x10] m3) (Grown h m arr.length) := by
  have hz : sizeLine = 2 ^ 24 := rfl
  have hp := (List.getElem?_eq_some_iff.mp hr).1
  have hpk : pl arr a < ks.length := by omega
  have t2 : ∀ (w : Int) (m : Mem), dMod (.int w) (.int 2) m = .ok (.int (w.fmod 2)) m := fun w m => v_mod (by decide)
  have C3 := C2.fr p3.fr
  have lenR3 : bLen [.ref rr] m3 = .ok (.int (rs.length : Int)) m3 := by rw [v_lenL (p3 _ _ k1)]; simp [k2]
  have oth := w_other x
  simp only [I] at oth
  -- the pair
  obtain ⟨q, hq⟩ : ∃ q : Nat × Nat, q = if x % 2 = 0 then (pl arr a, rs.length) else (rs.length, pl arr a) := ⟨_, rfl⟩
  have hev : ((x : Int).fmod 2) = ((x % 2 : Nat) : Int) := by rw [Int.fmod_eq_emod_of_nonneg _ (by decide)]; rfl
  -- the lists that are made
  obtain ⟨m4, hm4⟩ : ∃ m4, m4 = m3 ++ [Cell.lst ((ks.map D.ref).take (pl arr a))] := ⟨_, rfl⟩
  obtain ⟨m5, hm5⟩ : ∃ m5, m5 = m4 ++ [Cell.lst [.ref kn]] := ⟨_, rfl⟩
  obtain ⟨m6, hm6⟩ : ∃ m6, m6 = m5 ++ [Cell.lst ((ks.map D.ref).take (pl arr a) ++ [.ref kn])] := ⟨_, rfl⟩
  obtain ⟨m7, hm7⟩ : ∃ m7, m7 = m6 ++ [Cell.lst ((ks.map D.ref).drop (pl arr a + 1))] := ⟨_, rfl⟩
  obtain ⟨m8, hm8⟩ : ∃ m8, m8 = m7 ++ [Cell.lst ((ks.map D.ref).take (pl arr a) ++ [.ref kn] ++ (ks.map D.ref).drop (pl arr a + 1))] := ⟨_, rfl⟩
  obtain ⟨m9, hm9⟩ : ∃ m9, m9 = m8 ++ [Cell.lst [.int (Ch.o x : Int)]] := ⟨_, rfl⟩
  obtain ⟨ma, hma⟩ : ∃ ma, ma = m9 ++ [Cell.lst [.ref m8.length]] := ⟨_, rfl⟩
  obtain ⟨mb, hmb⟩ : ∃ mb, mb = ma ++ [Cell.lst ((ks.map D.ref).take (pl arr a) ++ [.ref kn] ++ (ks.map D.ref).drop (pl arr a + 1) ++ [.ref m8.length])] := ⟨_, rfl⟩
  obtain ⟨mc, hmc⟩ : ∃ mc, mc = mb ++ [Cell.lst [pD q]] := ⟨_, rfl⟩
  obtain ⟨md, hmd⟩ : ∃ md, md = mc ++ [Cell.lst (arr.map pD ++ [pD q])] := ⟨_, rfl⟩
  have p4 : Pre m3 m4 := by rw [hm4]; exact .add
  have p5 : Pre m4 m5 := by rw [hm5]; exact .add
  have p6 : Pre m5 m6 := by rw [hm6]; exact .add
  have p7 : Pre m6 m7 := by rw [hm7]; exact .add
  have p8 : Pre m7 m8 := by rw [hm8]; exact .add
  have p9 : Pre m8 m9 := by rw [hm9]; exact .add
  have pa : Pre m9 ma := by rw [hma]; exact .add
  have pb : Pre ma mb := by rw [hmb]; exact .add
  have pc : Pre mb mc := by rw [hmc]; exact .add
  have pd : Pre mc md := by rw [hmd]; exact .add
  have p36 : Pre m3 m6 := (p4.trans p5).trans p6
  have p3b : Pre m3 mb := p36.trans ((p7.trans p8).trans ((p9.trans pa).trans pb))
  have g4 : m4[m3.length]? = some (.lst ((ks.map D.ref).take (pl arr a))) := by rw [hm4]; exact new_get
  have g5 : m5[m4.length]? = some (.lst [.ref kn]) := by rw [hm5]; exact new_get
  have g6 : m6[m5.length]? = some (.lst ((ks.map D.ref).take (pl arr a) ++ [.ref kn])) := by rw [hm6]; exact new_get
  have g7 : m7[m6.length]? = some (.lst ((ks.map D.ref).drop (pl arr a + 1))) := by rw [hm7]; exact new_get
  have g8 : m8[m7.length]? = some (.lst ((ks.map D.ref).take (pl arr a) ++ [.ref kn] ++ (ks.map D.ref).drop (pl arr a + 1))) := by rw [hm8]; exact new_get
  have g9 : m9[m8.length]? = some (.lst [.int (Ch.o x : Int)]) := by rw [hm9]; exact new_get
  have ga : ma[m9.length]? = some (.lst [.ref m8.length]) := by rw [hma]; exact new_get
  have gb : mb[ma.length]? = some (.lst ((ks.map D.ref).take (pl arr a) ++ [.ref kn] ++ (ks.map D.ref).drop (pl arr a + 1) ++ [.ref m8.length])) := by rw [hmb]; exact new_get
  have gc : mc[mb.length]? = some (.lst [pD q]) := by rw [hmc]; exact new_get
  have gd : md[mc.length]? = some (.lst (arr.map pD ++ [pD q])) := by rw [hmd]; exact new_get
  have hrs := g.rows
  have s4 : dSl (.ref rr) none (some (pl arr a : Int)) m3 = .ok (.ref m3.length) m4 := by
    rw [w_slL (p3 _ _ k1), hm4, cut_lo]
  have s5 : mkLst [.ref kn] m4 = .ok (.ref m4.length) m5 := by rw [hm5]; exact v_lst (by rw [hz]; simp)
  have s6 : dAdd (.ref m3.length) (.ref m4.length) m5 = .ok (.ref m5.length) m6 := by
    rw [hm6]; exact w_catL (p5 _ _ g4) g5 (by rw [hz]; simp; omega)
  have s7 : dSl (.ref rr) (some ((pl arr a : Int) + 1)) none m6 = .ok (.ref m6.length) m7 := by
    rw [w_slL (p36 _ _ (p3 _ _ k1)), hm7]
    have := cut_hi (ks.map D.ref) (pl arr a + 1)
    rw [← this]; rfl
  have s8 : dAdd (.ref m5.length) (.ref m6.length) m7 = .ok (.ref m7.length) m8 := by
    rw [hm8]; exact w_catL (p7 _ _ g6) g7 (by rw [hz]; simp; omega)
  have s9 : mkLst [.int (Ch.o x : Int)] m8 = .ok (.ref m8.length) m9 := by rw [hm9]; exact v_lst (by rw [hz]; simp)
  have sa : mkLst [.ref m8.length] m9 = .ok (.ref m9.length) ma := by rw [hma]; exact v_lst (by rw [hz]; simp)
  have sb : dAdd (.ref m7.length) (.ref m9.length) ma = .ok (.ref ma.length) mb := by
    rw [hmb]; exact w_catL (pa _ _ (p9 _ _ g8)) ga (by rw [hz]; simp; omega)
  have sc : mkLst [pD q] mb = .ok (.ref mb.length) mc := by rw [hmc]; exact v_lst (by rw [hz]; simp)
  have sd : dAdd (.ref ra) (.ref mb.length) mc = .ok (.ref mc.length) md := by
    rw [hmd]; exact w_catL (pc _ _ (p3b _ _ (p3 _ _ C2.ha))) gc (by rw [hz]; simp; omega)
  have fin : Grown h m arr.length (.tup [.ref mc.length, .ref ma.length]) md := by
    have hF : Fr h m md := f02.trans ((p3.trans (p3b.trans (pc.trans pd))).fr)
    have hh : h < m2.length := by
      obtain ⟨_, _, _, _, _, _, z, _⟩ := H2
      exact (List.getElem?_eq_some_iff.mp z).1
    have l3 := p3.len
    have l4 := p4.len
    have l5 := p5.len
    have l6 := p6.len
    have l7 := p7.len
    have l8 := p8.len
    have l9 := p9.len
    have la := pa.len
    have lb := pb.len
    have lc := pc.len
    have gnew := g.hang ha' hr hx2
    rw [← hq] at gnew
    refine ⟨mc.length, ma.length, _, _, rfl, hF, H2.pre (p3.trans (p3b.trans (pc.trans pd))), ?_, gnew, by simp⟩
    refine ChM.next (m := m2) (kn := kn) (kq := m8.length) ((p3.trans (p3b.trans (pc.trans pd))).fr) hh k3 k2 hp (pd _ _ (pc _ _ (p3b _ _ kg))) ?_ ?_ ?_ (by omega) (by omega) (by omega) (by omega)
    · exact pd _ _ (pc _ _ (pb _ _ (pa _ _ g9)))
    · have := pd _ _ (pc _ _ gb)
      rw [set_cut (by simpa using hpk), ma_set] at this
      simpa using this
    · simpa using gd
  unfold hThen
  by_cases z : x % 2 = 0
  · have z' : (x : Int) % 2 = 0 := by omega
    have dq : D.tup [.int (pl arr a : Int), .int (rs.length : Int)] = pD q := by rw [hq, if_pos z]; rfl
    simp [lenR3, t2, hev, w_eqI, w_sl, w_oS, z', dq, s4, s5, s6, s7, s8, s9, sa, sb, sc, sd, oth, I]
    exact fin
  · have z' : ¬ (x : Int) % 2 = 0 := by omega
    have dq : D.tup [.int (rs.length : Int), .int (pl arr a : Int)] = pD q := by rw [hq, if_neg z]; rfl
    simp [lenR3, t2, hev, w_eqI, w_sl, w_oS, z', dq, s4, s5, s6, s7, s8, s9, sa, sb, sc, sd, oth, I]
    exact fin
noncomputable def hBody : AS :=
    (sSeq (sAsg (eCall f_law_put_behind (aCons (eOp dIx (eVar 2) (eVar 5)) (aCons (eVar 4) (aCons (eVar 7) (aNil))))) (gN 8))
    (sIf (tOrr (tVal (eVar 3)) (tVal (eOp dLt (eCall f_law_straights (aCons (eVar 8) (aNil))) (eC (.int 3))))) hThen (sSkip)))
/-- a test that lets, or not -/
theorem t_or_st {e : Env'} {m m1 : Mem} {i j n : Nat} {b : Bool} {x : D} (h1 : eVar i e m = .ok (.bl b) m) (h2 : eVar j e m = .ok x m) (h3 : f_law_straights [x] m = .ok (I n) m1) (p : Pre m m1) : ∃ b' m', tOrr (tVal (eVar i)) (tVal (eOp dLt (eCall f_law_straights (aCons (eVar j) (aNil))) (eC (.int 3)))) e m = .ok b' m' ∧ Pre m m' := by
  cases b with
  | true => exact ⟨true, m, t_orT (t_v h1), .refl⟩
  | false => exact ⟨_, m1, t_orF (t_v h1) (t_v (e_op (e_call (a_c h2 rfl) h3) rfl v_cmp)), p⟩
theorem Grown.fr {h : Nat} {m m2 : Mem} {n : Nat} {d : D} {m' : Mem} (f : Fr h m m2) (g : Grown h m2 n d m') : Grown h m n d m' := by
  obtain ⟨ra', rr', arr', rs', e, f2, H, C, G', l⟩ := g
  exact ⟨ra', rr', arr', rs', e, f.trans f2, H, C, G', l⟩
theorem w_hungB {h : Nat} {m : Mem} {ra rr : Nat} {b : Bool} {arr : List (Nat × Nat)} {rs : List (List Nat)} (H : HandOK h m) (C : ChM h m ra rr arr rs) (g : G arr rs) (hb : arr.length < 100) :
    Ok (f_law_hung [.ref h, .ref ra, .ref rr, .bl b] m) (Grown h m arr.length) := by
  have hz : sizeLine = 2 ^ 24 := rfl
  have hpos := g.pos
  have t2 : ∀ (w : Int) (m : Mem), dMod (.int w) (.int 2) m = .ok (.int (w.fmod 2)) m := fun w m => v_mod (by decide)
  have t3 : ∀ (w : Int) (m : Mem), dFdiv (.int w) (.int 2) m = .ok (.int (w.fdiv 2)) m := fun w m => v_fdiv ⟨by decide, by decide⟩
  obtain ⟨_, m1, e1, a, rfl, ha, f1, H1⟩ := ok_ex (w_draw H (many := 2 * (arr.length : Int)) (by omega) (by omega))
  have ha' : a < 2 * arr.length := by omega
  have C1 := C.fr f1
  obtain ⟨p, e2, e3⟩ := w_placeOf C1.ha ha'
  obtain ⟨r, hr, har⟩ := g.at' a ha'
  have hp := (List.getElem?_eq_some_iff.mp hr).1
  obtain ⟨_, m2, e4, v, rfl, hv, f2, H2⟩ := ok_ex (w_draw H1 (many := 2) (by decide) (by decide))
  have C2 := C1.fr f2
  obtain ⟨x, hx⟩ : ∃ x, x = 2 * arr.length + v := ⟨_, rfl⟩
  have hx2 : x = 2 * arr.length ∨ x = 2 * arr.length + 1 := by omega
  have ho2 : Ch.o x = 2 * arr.length ∨ Ch.o x = 2 * arr.length + 1 := by unfold Ch.o; split <;> omega
  obtain ⟨ks, k1, k2, k3⟩ := C2.hr
  have hpk : pl arr a < ks.length := by omega
  have lenA' : bLen [.ref ra] m = .ok (I arr.length) m := by rw [v_lenL C.ha]; simp [I]
  have lenA1 : bLen [.ref ra] m1 = .ok (I arr.length) m1 := by rw [v_lenL C1.ha]; simp [I]
  have hxI : dAdd (.int (2 * (arr.length : Int))) (I v) m2 = .ok (I x) m2 := by
    show R.ok (D.int (2 * (arr.length : Int) + (v : Int))) m2 = _
    rw [hx, show (2 * (arr.length : Int) + (v : Int)) = ((2 * arr.length + v : Nat) : Int) by omega]; rfl
  have s1 : sAsg (eCall f_law_draw (aCons (eVar 0) (aCons (eOp dMul (eC (.int 2)) (eCall bLen (aCons (eVar 1) (aNil)))) (aNil)))) (gN 4) [some (.ref h), some (.ref ra), some (.ref rr), some (.bl b), none, none, none, none, none, none, none] m = .nx [some (.ref h), some (.ref ra), some (.ref rr), some (.bl b), some (I a), none, none, none, none, none, none] m1 :=
    s_asg (e_call (a_c rfl (a_c (e_op rfl (e_call (a_c rfl rfl) lenA') (mul2 _ _)) rfl)) e1)
  have s2 : sAsg (eOp dIx (eOp dIx (eVar 1) (eOp dFdiv (eVar 4) (eC (.int 2)))) (eOp dMod (eCall bInt (aCons (eVar 4) (aNil))) (eC (.int 2)))) (gN 5) [some (.ref h), some (.ref ra), some (.ref rr), some (.bl b), some (I a), none, none, none, none, none, none] m1 = .nx [some (.ref h), some (.ref ra), some (.ref rr), some (.bl b), some (I a), some (I (pl arr a)), none, none, none, none, none] m1 :=
    s_asg (e_op (e_op rfl (e_op rfl rfl (t3 _ _)) e2) (e_op (e_call (a_c rfl rfl) rfl) rfl (t2 _ _)) e3)
  have s3 : sAsg (eOp dAdd (eOp dMul (eC (.int 2)) (eCall bLen (aCons (eVar 1) (aNil)))) (eCall f_law_draw (aCons (eVar 0) (aCons (eC (.int 2)) (aNil))))) (gN 6) [some (.ref h), some (.ref ra), some (.ref rr), some (.bl b), some (I a), some (I (pl arr a)), none, none, none, none, none] m1 = .nx [some (.ref h), some (.ref ra), some (.ref rr), some (.bl b), some (I a), some (I (pl arr a)), some (I x), none, none, none, none] m2 :=
    s_asg (e_op (e_op rfl (e_call (a_c rfl rfl) lenA1) (mul2 _ _)) (e_call (a_c rfl (a_c rfl rfl)) e4) hxI)
  have hit : iE (eCall mkTup (aCons (eVar 6) (aCons (eCall f_law_other (aCons (eVar 6) (aNil))) (aNil)))) [some (.ref h), some (.ref ra), some (.ref rr), some (.bl b), some (I a), some (I (pl arr a)), some (I x), none, none, none, none] m2 = .ok ([x, Ch.o x].map I, []) m2 := by
    rw [w_iE, e_call (a_c rfl (a_c (e_call (a_c rfl rfl) (w_other _ _)) rfl)) mk2, v_bind, w_itT]; rfl
  unfold f_law_hung afOf a_law_hung
  show Ok ((sSeq _ _ [some (.ref h), some (.ref ra), some (.ref rr), some (.bl b), none, none, none, none, none, none, none] m).f) _
  rw [v_seq, s1, v_nx, v_seq, s2, v_nx, v_seq, s3, v_nx, v_seq]
  refine rn_f ?_
  rw [w_for, hit, v_o]
  let Inv : List D → Env' → Mem → Prop := fun rest e' m' => ∃ (l : List Nat) (y7 y8 y9 y10 : Option D), rest = l.map I ∧ (∀ y ∈ l, y = 2 * arr.length ∨ y = 2 * arr.length + 1) ∧ e' = [some (.ref h), some (.ref ra), some (.ref rr), some (.bl b), some (I a), some (I (pl arr a)), some (I x), y7, y8, y9, y10] ∧ Pre m2 m'
  refine rn_mono (forL_rn (b := hBody) (QR := Grown h m arr.length) Inv ?_ (fun _ _ _ => gd_nil) _ _ _ ⟨[x, Ch.o x], none, none, none, none, rfl, ?_, rfl, .refl⟩) (fun _ _ q => q) ?_
  · rintro d rest e1 m4 ⟨l, y7, y8, y9, y10, w1, w2, rfl, w3⟩
    cases l with
    | nil => cases w1
    | cons y l =>
      rw [List.map_cons] at w1
      cases w1
      refine ⟨gd_nil, _, rfl, ?_⟩
      have C4 := C2.fr w3.fr
      have k4 := k3 (pl arr a) ks[pl arr a] r (List.getElem?_eq_getElem hpk) hr
      have hrl : r.length < 999 := by have := g.row (List.mem_of_getElem? hr); omega
      obtain ⟨_, m5, e5, kn, rfl, p5, kl, kg⟩ := ok_ex (w_put (x := y) (w3 _ _ k4.1) har (by omega))
      have e6 : dIx (.ref rr) (I (pl arr a)) m4 = .ok (.ref ks[pl arr a]) m4 := v_ixL (w3 _ _ k1) (atI_nat (by simp [hpk]))
      have hpl : (Ch.put r a y).length < 1000 := by rw [Ch.put_perm.length_eq]; simp; omega
      obtain ⟨_, m6, e7, rfl, p6⟩ := ok_ex (w_straights kg hpl)
      have sp : sAsg (eCall f_law_put_behind (aCons (eOp dIx (eVar 2) (eVar 5)) (aCons (eVar 4) (aCons (eVar 7) (aNil))))) (gN 8) [some (.ref h), some (.ref ra), some (.ref rr), some (.bl b), some (I a), some (I (pl arr a)), some (I x), some (I y), y8, y9, y10] m4 = .nx [some (.ref h), some (.ref ra), some (.ref rr), some (.bl b), some (I a), some (I (pl arr a)), some (I x), some (I y), some (.ref kn), y9, y10] m5 :=
        s_asg (e_call (a_c (e_op rfl rfl e6) (a_c rfl (a_c rfl rfl))) e5)
      obtain ⟨b', m7, e8, p7⟩ := t_or_st (e := [some (.ref h), some (.ref ra), some (.ref rr), some (.bl b), some (I a), some (I (pl arr a)), some (I x), some (I y), some (.ref kn), y9, y10]) (m := m5) (i := 3) (j := 8) (b := b) rfl rfl e7 p6
      show Rn (hBody [some (.ref h), some (.ref ra), some (.ref rr), some (.bl b), some (I a), some (I (pl arr a)), some (I x), some (I y), y8, y9, y10] m4) _ _
      unfold hBody
      rw [v_seq, sp, v_nx]
      cases b' with
      | true =>
        rw [v_sifT e8]
        have := hung_then (m := m) (m2 := m2) (m3 := m7) (x3 := some (.bl b)) (x6 := some (I x)) (x9 := y9) (x10 := y10) (f1.trans f2) H2 C2 g hb ha' hr (w2 y List.mem_cons_self) k1 k2 k3 ((w3.trans p5).trans p7) (by have := w3.len; omega) (p7 _ _ kg)
        cases q : hThen [some (.ref h), some (.ref ra), some (.ref rr), some (.bl b), some (I a), some (I (pl arr a)), some (I x), some (I y), some (.ref kn), y9, y10] m7 with
        | rt d m8 => rw [q] at this; exact this
        | _ => rw [q] at this; exact this.elim
      | false =>
        rw [v_sifF e8, v_skip]
        exact ⟨l, _, _, _, _, rfl, fun z hz => w2 z (List.mem_cons_of_mem _ hz), rfl, (w3.trans p5).trans p7⟩
  · intro y hy
    simp only [List.mem_cons, List.not_mem_nil, or_false] at hy
    rcases hy with rfl | rfl
    · exact hx2
    · exact ho2
  · rintro e' m4 ⟨l, y7, y8, y9, y10, w1, w2, rfl, w3⟩
    rw [s_ret (e_call (a_c rfl (a_c rfl rfl)) mk2), v_frt]
    exact ⟨ra, rr, arr, rs, rfl, (f1.trans f2).trans w3.fr, HandOK.pre H2 w3, C2.fr w3.fr, g, by omega⟩
end Cl
set_option Elab.async false
set_option linter.all false
set_option maxRecDepth 100000
namespace Cl
open PySem PySem.Spec PyProof.Rows L2 Ab
noncomputable def tTest : AT := tOrr (tVal (eVar 3)) (tAn (tVal (eOp dLt (eCall f_law_straights (aCons (eOp dIx (eVar 13) (eVar 11)) (aNil))) (eC (.int 3)))) (tVal (eOp dLt (eCall f_law_straights (aCons (eOp dIx (eVar 13) (eVar 12)) (aNil))) (eC (.int 3)))))
noncomputable def tRet : AS := sRet (eCall mkTup (aCons (eOp dAdd (eVar 1) (eCall mkLst (aCons (eCall mkTup (aCons (eVar 11) (aCons (eVar 12) (aNil)))) (aNil)))) (aCons (eVar 13) (aNil))))
noncomputable def tPut : AS := sIf (tVal (eOp dEq (eVar 9) (eVar 10)))
    (sAsg (eCall f_law_put_behind (aCons (eCall f_law_put_behind (aCons (eOp dIx (eVar 13) (eVar 11)) (aCons (eVar 9) (aCons (eOp dAdd (eVar 8) (eC (.int 1))) (aNil))))) (aCons (eVar 9) (aCons (eVar 8) (aNil))))) (gS dSet (eVar 13) (eVar 11)))
    (sSeq (sAsg (eCall f_law_put_behind (aCons (eOp dIx (eVar 13) (eVar 11)) (aCons (eVar 9) (aCons (eVar 8) (aNil))))) (gS dSet (eVar 13) (eVar 11)))
    (sAsg (eCall f_law_put_behind (aCons (eOp dIx (eVar 13) (eVar 12)) (aCons (eVar 10) (aCons (eOp dAdd (eVar 8) (eC (.int 1))) (aNil))))) (gS dSet (eVar 13) (eVar 12))))
noncomputable def tBody : AS :=
    (sSeq (sPar2 11 12 (aCons (eOp dIx (eOp dIx (eVar 1) (eOp dFdiv (eVar 9) (eC (.int 2)))) (eOp dMod (eCall bInt (aCons (eVar 9) (aNil))) (eC (.int 2)))) (aCons (eOp dIx (eOp dIx (eVar 1) (eOp dFdiv (eVar 10) (eC (.int 2)))) (eOp dMod (eCall bInt (aCons (eVar 10) (aNil))) (eC (.int 2)))) (aNil))))
    (sSeq (sAsg (eCall bList (aCons (eVar 2) (aNil))) (gN 13))
    (sSeq tPut (sIf tTest tRet (sSkip)))))
theorem s_set {a b v : AE} {F : D → D → D → Mem → R Unit} {e : Env'} {m m1 m2 m3 m4 : Mem} {x y z : D} (h1 : v e m = .ok z m1) (h2 : a e m1 = .ok x m2) (h3 : b e m2 = .ok y m3) (h4 : F x y z m3 = .ok () m4) : sAsg v (gS F a b) e m = .nx e m4 := by
  rw [v_asg, h1, v_o, v_gS, h2, v_bind, h3, v_bind, h4]; rfl
theorem s_par2 {i j : Nat} {aa : AA} {e : Env'} {m m1 : Mem} {x y : D} (h : aa e m = .ok [x, y] m1) : sPar2 i j aa e m = .nx ((e.set i (some x)).set j (some y)) m1 := by
  unfold sPar2; rw [h, v_o]
/-- the chart with a tied arrow -/
structure Tied (h : Nat) (m4 m8 : Mem) (kl a b : Nat) (arr : List (Nat × Nat)) (rs : List (List Nat)) (ks' : List Nat) (rs' : List (List Nat)) : Prop where
  fr : Fr h m4 m8
  hand : HandOK h m8
  lst : m8[kl]? = some (.lst (ks'.map D.ref))
  rows : RowsH h m8 ks' rs'
  len : rs'.length = rs.length
  most : ∀ r ∈ rs', r.length < 1000
  g : G (arr ++ [(pl arr a, pl arr b)]) rs'
theorem tied_put {h : Nat} {m4 m5 : Mem} {kl a b : Nat} {arr : List (Nat × Nat)} {rs rims : List (List Nat)} {ks : List Nat} {q : List Nat} {x0 x1 x2 x3 x4 x5 x6 x7 : Option D} (H4 : HandOK h m4) (nl : kl ≠ h) (hkl : kl = m4.length) (p5 : Pre m4 m5) (g5 : m5[kl]? = some (.lst (ks.map D.ref))) (R4 : RowsH h m4 ks rs) (g : G arr rs) (hb : arr.length < 100) (F : Ch.Flat rs rims (2 * arr.length)) (hF : rs.length + rims.length = arr.length + 2)
    (hq : q ∈ rims) (haq : a ∈ q) (hbq : b ∈ q) (haN : a < 2 * arr.length) (hbN : b < 2 * arr.length) :
    ∃ m8 ks' rs', tPut [x0, x1, x2, x3, x4, x5, x6, x7, some (I (2 * arr.length)), some (I a), some (I b), some (I (pl arr a)), some (I (pl arr b)), some (.ref kl)] m5 = .nx [x0, x1, x2, x3, x4, x5, x6, x7, some (I (2 * arr.length)), some (I a), some (I b), some (I (pl arr a)), some (I (pl arr b)), some (.ref kl)] m8 ∧ Tied h m4 m8 kl a b arr rs ks' rs' := by
  have hz : sizeLine = 2 ^ 24 := rfl
  have k2 := R4.1
  obtain ⟨r, hr, har⟩ := g.at' a haN
  have hp := (List.getElem?_eq_some_iff.mp hr).1
  obtain ⟨r2, hr2, hbr⟩ := g.at' b hbN
  have hp2 := (List.getElem?_eq_some_iff.mp hr2).1
  have hrl : r.length < 998 := by have := g.row (List.mem_of_getElem? hr); omega
  have hall : ∀ r ∈ rs, r.length < 998 := fun r hr => by have := g.row hr; omega
  have hpk : pl arr a < ks.length := by omega
  have z1 : dIx (.ref kl) (I (pl arr a)) m5 = .ok (.ref ks[pl arr a]) m5 := v_ixL g5 (atI_nat (by rw [List.getElem?_map, List.getElem?_eq_getElem hpk]; rfl))
  have R5 : RowsH h m5 ks rs := R4.fr p5.fr
  have hk := R5.2 _ _ _ (List.getElem?_eq_getElem hpk) hr
  have N2 : ∀ m, dAdd (I (2 * arr.length)) (.int 1) m = .ok (I (2 * arr.length + 1)) m := fun m => rfl
  have l5 : m4.length < m5.length := by have := (List.getElem?_eq_some_iff.mp g5).1; omega
  have mset : ∀ {rs0 : List (List Nat)} {r0 : List Nat} {p x y : Nat}, (∀ r ∈ rs0, r.length < 999) → r0.length < 999 → ∀ r ∈ rs0.set p (Ch.put r0 x y), r.length < 1000 := fun h0 h1 r hr => by
    rcases List.mem_or_eq_of_mem_set hr with z | z
    · have := h0 r z; omega
    · rw [z, Ch.put_perm.length_eq]; simp; omega
  by_cases hab : a = b
  · subst hab
    obtain ⟨_, m6, e6, k6, rfl, p6, l6, g6⟩ := ok_ex (w_put (x := 2 * arr.length + 1) hk.1 har (by omega))
    have har6 : a ∈ Ch.put r a (2 * arr.length + 1) := put_mem.mpr (.inr har)
    have hl6 : (Ch.put r a (2 * arr.length + 1)).length < 999 := by rw [Ch.put_perm.length_eq]; simp; omega
    obtain ⟨_, m7, e7, k7, rfl, p7, l7, g7⟩ := ok_ex (w_put (x := 2 * arr.length) g6 har6 (by omega))
    have g57 : m7[kl]? = some (.lst (ks.map D.ref)) := p7 _ _ (p6 _ _ g5)
    have s7 : dSet (.ref kl) (I (pl arr a)) (.ref k7) m7 = .ok () (m7.set kl (.lst ((ks.set (pl arr a) k7).map D.ref))) := by
      rw [← ma_set]
      exact v_setL g57 (ixN_n (by simpa using hpk))
    have l56 := p6.len
    have n7 : k7 ≠ kl := by omega
    have f8 : Fr h m4 (m7.set kl (.lst ((ks.set (pl arr a) k7).map D.ref))) := fun i c e n => by
      have hi := (List.getElem?_eq_some_iff.mp e).1
      rw [List.getElem?_set_ne (by omega)]
      exact p7 _ _ (p6 _ _ (p5 _ _ e))
    have R7 : RowsH h (m7.set kl (.lst ((ks.set (pl arr a) k7).map D.ref))) (ks.set (pl arr a) k7) (rs.set (pl arr a) (Ch.put (Ch.put r a (2 * arr.length + 1)) a (2 * arr.length))) :=
      (R4.fr f8).set (by rw [List.getElem?_set_ne (Ne.symm n7)]; exact g7) (by have := H4.lt2; omega)
    have H8 : HandOK h (m7.set kl (.lst ((ks.set (pl arr a) k7).map D.ref))) := by
      obtain ⟨c', cells', i', big', seed', cnt', u1, u2, u3, u4⟩ := H4
      have hc' := (List.getElem?_eq_some_iff.mp u3).1
      exact ⟨c', cells', i', big', seed', cnt', by rw [List.getElem?_set_ne nl]; exact p7 _ _ (p6 _ _ (p5 _ _ u1)), u2, by rw [List.getElem?_set_ne (by omega)]; exact p7 _ _ (p6 _ _ (p5 _ _ u3)), u4⟩
    refine ⟨_, _, _, ?_, f8, H8, get_set g57, R7, by simp, mset (fun r hr => by have := hall r hr; omega) hl6, g.loop haN hr⟩
    unfold tPut
    rw [v_sifT (m1 := m5) (by rw [t_v (e_op rfl rfl (w_eqII _ _ _))]; simp)]
    exact s_set (e_call (a_c (e_call (a_c (e_op rfl rfl z1) (a_c rfl (a_c (e_op rfl rfl (N2 _)) rfl))) e6) (a_c rfl (a_c rfl rfl))) e7) rfl rfl s7
  · obtain ⟨_, m6, e6, k6, rfl, p6, l6, g6⟩ := ok_ex (w_put (x := 2 * arr.length) hk.1 har (by omega))
    have n6 : k6 ≠ kl := by omega
    have g56 : m6[kl]? = some (.lst (ks.map D.ref)) := p6 _ _ g5
    obtain ⟨m7, hm7⟩ : ∃ m7, m7 = m6.set kl (.lst ((ks.set (pl arr a) k6).map D.ref)) := ⟨_, rfl⟩
    have s6 : dSet (.ref kl) (I (pl arr a)) (.ref k6) m6 = .ok () m7 := by
      rw [hm7, ← ma_set]
      exact v_setL g56 (ixN_n (by simpa using hpk))
    have g57 : m7[kl]? = some (.lst ((ks.set (pl arr a) k6).map D.ref)) := by rw [hm7]; exact get_set g56
    have f67 : ∀ (i : Nat) (c : Cell), m6[i]? = some c → i ≠ kl → m7[i]? = some c := fun i c e n => by rw [hm7, List.getElem?_set_ne (Ne.symm n)]; exact e
    have f47 : Fr h m4 m7 := fun i c e n => by
      have hi := (List.getElem?_eq_some_iff.mp e).1
      exact f67 _ _ (p6 _ _ (p5 _ _ e)) (by omega)
    have R7 : RowsH h m7 (ks.set (pl arr a) k6) (rs.set (pl arr a) (Ch.put r a (2 * arr.length))) := (R4.fr f47).set (f67 _ _ g6 n6) (by have := H4.lt2; omega)
    obtain ⟨r', hr', hbr'⟩ := At.set (e := a) (x := 2 * arr.length) (g.at' b hbN) hr
    have hpk2 : pl arr b < (ks.set (pl arr a) k6).length := by simp; omega
    have hk7 := R7.2 _ _ _ (List.getElem?_eq_getElem hpk2) hr'
    have m7l : ∀ r0 ∈ rs.set (pl arr a) (Ch.put r a (2 * arr.length)), r0.length < 999 := fun r0 h0 => by
      rcases List.mem_or_eq_of_mem_set h0 with z | z
      · have := hall r0 z; omega
      · rw [z, Ch.put_perm.length_eq]; simp; omega
    have hrl' : r'.length < 999 := m7l r' (List.mem_of_getElem? hr')
    obtain ⟨_, m8, e8, k8, rfl, p8, l8, g8⟩ := ok_ex (w_put (x := 2 * arr.length + 1) hk7.1 hbr' (by omega))
    have z2 : dIx (.ref kl) (I (pl arr b)) m7 = .ok (.ref (ks.set (pl arr a) k6)[pl arr b]) m7 := v_ixL g57 (atI_nat (by rw [List.getElem?_map, List.getElem?_eq_getElem hpk2]; rfl))
    have g58 : m8[kl]? = some (.lst ((ks.set (pl arr a) k6).map D.ref)) := p8 _ _ g57
    have l56 := p6.len
    have l67 : m7.length = m6.length := by rw [hm7]; simp
    have n8 : k8 ≠ kl := by omega
    obtain ⟨m9, hm9⟩ : ∃ m9, m9 = m8.set kl (.lst (((ks.set (pl arr a) k6).set (pl arr b) k8).map D.ref)) := ⟨_, rfl⟩
    have s9 : dSet (.ref kl) (I (pl arr b)) (.ref k8) m8 = .ok () m9 := by
      rw [hm9, ← ma_set]
      exact v_setL g58 (ixN_n (by simpa using hpk2))
    have f49 : Fr h m4 m9 := fun i c e n => by
      have hi := (List.getElem?_eq_some_iff.mp e).1
      rw [hm9, List.getElem?_set_ne (by omega)]
      exact p8 _ _ (f47 _ _ e n)
    have f79 : ∀ (i : Nat) (c : Cell), m7[i]? = some c → i ≠ kl → m9[i]? = some c := fun i c e n => by rw [hm9, List.getElem?_set_ne (Ne.symm n)]; exact p8 _ _ e
    have g69 : m9[k6]? = some (.lst ((Ch.put r a (2 * arr.length)).map I)) := f79 _ _ (f67 _ _ g6 n6) n6
    have hlt := H4.lt2
    have R9 : RowsH h m9 ((ks.set (pl arr a) k6).set (pl arr b) k8) ((rs.set (pl arr a) (Ch.put r a (2 * arr.length))).set (pl arr b) (Ch.put r' b (2 * arr.length + 1))) :=
      RowsH.set (RowsH.set (R4.fr f49) g69 (by omega)) (by rw [hm9, List.getElem?_set_ne (Ne.symm n8)]; exact g8) (by omega)
    have H9 : HandOK h m9 := by
      obtain ⟨c, cells, i, big, seed, cnt, u1, u2, u3, u4⟩ := H4
      have hc' := (List.getElem?_eq_some_iff.mp u3).1
      have v1 : m9[h]? = some (.lst [.ref c, .int i, .int big, .int seed, .int cnt]) := by
        rw [hm9, List.getElem?_set_ne nl]
        refine p8 _ _ ?_
        rw [hm7, List.getElem?_set_ne nl]
        exact p6 _ _ (p5 _ _ u1)
      exact ⟨c, cells, i, big, seed, cnt, v1, u2, f49 _ _ u3 u2, u4⟩
    refine ⟨m9, _, _, ?_, f49, H9, by rw [hm9]; exact get_set g58, R9, by simp, mset (fun r hr => m7l r hr) hrl', g.tie haN hbN hab F hF ⟨q, hq, haq, hbq⟩ hr hr'⟩
    unfold tPut
    rw [v_sifF (m1 := m5) (by rw [t_v (e_op rfl rfl (w_eqII _ _ _)), decide_eq_false hab]), v_seq]
    rw [s_set (e_call (a_c (e_op rfl rfl z1) (a_c rfl (a_c rfl rfl))) e6) rfl rfl s6, v_nx]
    exact s_set (e_call (a_c (e_op rfl rfl z2) (a_c rfl (a_c (e_op rfl rfl (N2 _)) rfl))) e8) rfl rfl s9
end Cl
set_option Elab.async false
set_option linter.all false
set_option maxRecDepth 100000
namespace Cl
open PySem PySem.Spec PyProof.Rows L2 Ab
theorem tied_body {h : Nat} {m m4 : Mem} {ra rr a b : Nat} {bt : Bool} {arr : List (Nat × Nat)} {rs rims : List (List Nat)} {q : List Nat} {x4 x5 x6 x7 x11 x12 x13 : Option D} (f04 : Fr h m m4) (H4 : HandOK h m4) (C : ChM h m4 ra rr arr rs) (g : G arr rs) (hb : arr.length < 100) (F : Ch.Flat rs rims (2 * arr.length)) (hF : rs.length + rims.length = arr.length + 2)
    (hq : q ∈ rims) (haq : a ∈ q) (hbq : b ∈ q) :
    Rn (tBody [some (.ref h), some (.ref ra), some (.ref rr), some (.bl bt), x4, x5, x6, x7, some (I (2 * arr.length)), some (I a), some (I b), x11, x12, x13] m4) (Grown h m arr.length)
      (fun e' m' => Fr h m4 m' ∧ HandOK h m' ∧ ∃ y11 y12 y13, e' = [some (.ref h), some (.ref ra), some (.ref rr), some (.bl bt), x4, x5, x6, x7, some (I (2 * arr.length)), some (I a), some (I b), y11, y12, y13]) := by
  have hz : sizeLine = 2 ^ 24 := rfl
  have t2 : ∀ (w : Int) (m : Mem), dMod (.int w) (.int 2) m = .ok (.int (w.fmod 2)) m := fun w m => v_mod (by decide)
  have t3 : ∀ (w : Int) (m : Mem), dFdiv (.int w) (.int 2) m = .ok (.int (w.fdiv 2)) m := fun w m => v_fdiv ⟨by decide, by decide⟩
  have inN : ∀ e, e ∈ q → e < 2 * arr.length := fun e he => List.mem_range.mp (F.mN.mem_iff.mp (List.mem_flatten.mpr ⟨q, hq, he⟩))
  have haN := inN a haq
  have hbN := inN b hbq
  obtain ⟨ks, k1, k2, k3⟩ := C.hr
  have R4 : RowsH h m4 ks rs := ⟨k2, k3⟩
  obtain ⟨pa, y1, y2⟩ := w_placeOf C.ha haN
  obtain ⟨pb, y3, y4⟩ := w_placeOf C.ha hbN
  have h4 := H4.lt2
  have nl : m4.length ≠ h := by omega
  obtain ⟨m5, hm5⟩ : ∃ m5, m5 = m4 ++ [Cell.lst (ks.map D.ref)] := ⟨_, rfl⟩
  have p5 : Pre m4 m5 := by rw [hm5]; exact .add
  have g5 : m5[m4.length]? = some (.lst (ks.map D.ref)) := by rw [hm5]; exact new_get
  have s5 : bList [.ref rr] m4 = .ok (.ref m4.length) m5 := by
    unfold bList itemsD
    simp only [k1]
    rw [hm5]
  obtain ⟨m8, ks', rs', e8, T8⟩ := tied_put (x0 := some (.ref h)) (x1 := some (.ref ra)) (x2 := some (.ref rr)) (x3 := some (.bl bt)) (x4 := x4) (x5 := x5) (x6 := x6) (x7 := x7) H4 nl rfl p5 g5 R4 g hb F hF hq haq hbq haN hbN
  have hpa : pl arr a < rs'.length := by
    have := T8.len
    obtain ⟨r, hr, _⟩ := g.at' a haN
    have := (List.getElem?_eq_some_iff.mp hr).1
    omega
  have hpb : pl arr b < rs'.length := by
    have := T8.len
    obtain ⟨r, hr, _⟩ := g.at' b hbN
    have := (List.getElem?_eq_some_iff.mp hr).1
    omega
  obtain ⟨E, hE⟩ : ∃ E : Env', E = [some (.ref h), some (.ref ra), some (.ref rr), some (.bl bt), x4, x5, x6, x7, some (I (2 * arr.length)), some (I a), some (I b), some (I (pl arr a)), some (I (pl arr b)), some (.ref m4.length)] := ⟨_, rfl⟩
  -- the test
  have row : ∀ (p : Nat) (hp : p < rs'.length) (m' : Mem), Pre m8 m' → ∃ m'', dIx (.ref m4.length) (I p) m' = .ok (.ref (ks'[p]'(by rw [T8.rows.1]; exact hp))) m' ∧ f_law_straights [.ref (ks'[p]'(by rw [T8.rows.1]; exact hp))] m' = .ok (I (strI rs'[p]).length) m'' ∧ Pre m' m'' := by
    intro p hp m' pm
    have hk : p < ks'.length := by rw [T8.rows.1]; exact hp
    have c := T8.rows.2 p ks'[p] rs'[p] (List.getElem?_eq_getElem hk) (List.getElem?_eq_getElem hp)
    obtain ⟨_, m'', e, rfl, p''⟩ := ok_ex (w_straights (pm _ _ c.1) (T8.most _ (List.getElem_mem hp)))
    exact ⟨m'', v_ixL (pm _ _ T8.lst) (atI_nat (by rw [List.getElem?_map, List.getElem?_eq_getElem hk]; rfl)), e, p''⟩
  have ht : ∃ b' m9, tTest E m8 = .ok b' m9 ∧ Pre m8 m9 := by
    rw [hE]
    cases bt with
    | true => exact ⟨true, m8, t_orT (t_v rfl), .refl⟩
    | false =>
      obtain ⟨m9, w1, w2, w3⟩ := row _ hpa m8 .refl
      obtain ⟨m10, w4, w5, w6⟩ := row _ hpb m9 w3
      have u1 := t_v (a := eOp dLt (eCall f_law_straights (aCons (eOp dIx (eVar 13) (eVar 11)) (aNil))) (eC (.int 3))) (e := [some (.ref h), some (.ref ra), some (.ref rr), some (.bl false), x4, x5, x6, x7, some (I (2 * arr.length)), some (I a), some (I b), some (I (pl arr a)), some (I (pl arr b)), some (.ref m4.length)]) (m := m8) (e_op (e_call (a_c (e_op rfl rfl w1) rfl) w2) rfl v_cmp)
      have u2 := t_v (a := eOp dLt (eCall f_law_straights (aCons (eOp dIx (eVar 13) (eVar 12)) (aNil))) (eC (.int 3))) (e := [some (.ref h), some (.ref ra), some (.ref rr), some (.bl false), x4, x5, x6, x7, some (I (2 * arr.length)), some (I a), some (I b), some (I (pl arr a)), some (I (pl arr b)), some (.ref m4.length)]) (m := m9) (e_op (e_call (a_c (e_op rfl rfl w4) rfl) w5) rfl v_cmp)
      cases hd : decide (((strI rs'[pl arr a]).length : Int) < 3) with
      | true =>
        rw [hd] at u1
        exact ⟨_, m10, t_orF (t_v rfl) (t_anT u1 u2), w3.trans w6⟩
      | false =>
        rw [hd] at u1
        exact ⟨_, m9, t_orF (t_v rfl) (t_anF u1), w3⟩
  obtain ⟨b', m9, e9, p9⟩ := ht
  unfold tBody
  rw [v_seq, s_par2 (a_c (e_op (e_op rfl (e_op rfl rfl (t3 _ _)) y1) (e_op (e_call (a_c rfl rfl) rfl) rfl (t2 _ _)) y2) (a_c (e_op (e_op rfl (e_op rfl rfl (t3 _ _)) y3) (e_op (e_call (a_c rfl rfl) rfl) rfl (t2 _ _)) y4) rfl)), v_nx, v_seq]
  show Rn (O.seq (sAsg _ (gN 13) [some (.ref h), some (.ref ra), some (.ref rr), some (.bl bt), x4, x5, x6, x7, some (I (2 * arr.length)), some (I a), some (I b), some (I (pl arr a)), some (I (pl arr b)), x13] m4) _) _ _
  rw [s_asg (e_call (a_c rfl rfl) s5), v_nx, v_seq]
  show Rn (O.seq (tPut [some (.ref h), some (.ref ra), some (.ref rr), some (.bl bt), x4, x5, x6, x7, some (I (2 * arr.length)), some (I a), some (I b), some (I (pl arr a)), some (I (pl arr b)), some (.ref m4.length)] m5) _) _ _
  rw [e8, v_nx, ← hE]
  cases b' with
  | false =>
    rw [v_sifF e9, v_skip]
    exact ⟨T8.fr.trans p9.fr, HandOK.pre T8.hand p9, _, _, _, hE⟩
  | true =>
    rw [v_sifT e9]
    have H9 := HandOK.pre T8.hand p9
    have F9 := T8.fr.trans p9.fr
    obtain ⟨ma, hma⟩ : ∃ ma, ma = m9 ++ [Cell.lst [pD (pl arr a, pl arr b)]] := ⟨_, rfl⟩
    obtain ⟨mb, hmb⟩ : ∃ mb, mb = ma ++ [Cell.lst (arr.map pD ++ [pD (pl arr a, pl arr b)])] := ⟨_, rfl⟩
    have pa' : Pre m9 ma := by rw [hma]; exact .add
    have pb' : Pre ma mb := by rw [hmb]; exact .add
    have ga : ma[m9.length]? = some (.lst [pD (pl arr a, pl arr b)]) := by rw [hma]; exact new_get
    have gb : mb[ma.length]? = some (.lst (arr.map pD ++ [pD (pl arr a, pl arr b)])) := by rw [hmb]; exact new_get
    have gra := F9 _ _ C.ha C.na
    have sd : dAdd (.ref ra) (.ref m9.length) ma = .ok (.ref ma.length) mb := by
      rw [hmb]; exact w_catL (pa' _ _ gra) ga (by rw [hz]; simp; omega)
    have h9 := H9.lt2
    have l9 := pa'.len
    have er : (eCall mkTup (aCons (eOp dAdd (eVar 1) (eCall mkLst (aCons (eCall mkTup (aCons (eVar 11) (aCons (eVar 12) (aNil)))) (aNil)))) (aCons (eVar 13) (aNil)))) E m9 = .ok (.tup [.ref ma.length, .ref m4.length]) mb := by
      rw [hE]
      exact e_call (a_c (e_op rfl (e_call (a_c (e_call (a_c rfl (a_c rfl rfl)) mk2) rfl) (show mkLst [D.tup [I (pl arr a), I (pl arr b)]] m9 = .ok (.ref m9.length) ma by rw [mkL1, hma]; rfl)) sd) (a_c rfl rfl)) mk2
    unfold tRet
    rw [s_ret er]
    refine ⟨_, _, _, rs', rfl, (f04.trans F9).trans (pa'.trans pb').fr, HandOK.pre H9 (pa'.trans pb'), ⟨?_, ?_, nl, ks', pb' _ _ (pa' _ _ (p9 _ _ T8.lst)), RowsH.fr T8.rows (p9.fr.trans (pa'.trans pb').fr)⟩, T8.g, by simp⟩
    · rw [gb]; simp
    · omega
theorem w_tiedB {h : Nat} {m : Mem} {ra rr : Nat} {bt : Bool} {arr : List (Nat × Nat)} {rs : List (List Nat)} (H : HandOK h m) (C : ChM h m ra rr arr rs) (g : G arr rs) (hb : arr.length < 100) :
    Ok (f_law_tied [.ref h, .ref ra, .ref rr, .bl bt] m) (Grown h m arr.length) := by
  have hz : sizeLine = 2 ^ 24 := rfl
  have hpos := g.pos
  obtain ⟨rims, F, hF⟩ := g.flat
  obtain ⟨ks, k1, k2, k3⟩ := C.hr
  have hh := H.lt2
  obtain ⟨_, m1, e1, kf, fs, rfl, p1, l1, q1, fs0, fsl, hP⟩ := ok_ex (w_rims F (by omega) (by omega) k1 k2 (fun i k r a b => (k3 i k r a b).1))
  have H1 := HandOK.pre H p1
  have hfs : 0 < fs.length := by cases fs with | nil => exact absurd rfl fs0 | cons a l => simp
  obtain ⟨_, m2, e2, v1, rfl, hv1, f2, H2⟩ := ok_ex (w_draw H1 (many := (fs.length : Int)) (by omega) (by omega))
  have hv1' : v1 < fs.length := by omega
  have hkf : kf ≠ h := by omega
  have q2 := f2 _ _ q1 hkf
  obtain ⟨f, hf⟩ : ∃ f, f = fs[v1] := ⟨_, rfl⟩
  have x1 : dIx (.ref kf) (I v1) m2 = .ok (tI f) m2 := v_ixL q2 (atI_nat (by rw [List.getElem?_map, List.getElem?_eq_getElem hv1', hf]; rfl))
  obtain ⟨hf0, hfl, q, hq, hfq⟩ := hP f (by rw [hf]; exact List.getElem_mem hv1')
  have hfp : 0 < f.length := by cases f with | nil => exact absurd rfl hf0 | cons a l => simp
  obtain ⟨_, m3, e3, v2, rfl, hv2, f3, H3⟩ := ok_ex (w_draw H2 (many := (f.length : Int)) (by omega) (by omega))
  obtain ⟨_, m4, e4, v3, rfl, hv3, f4, H4⟩ := ok_ex (w_draw H3 (many := (f.length : Int)) (by omega) (by omega))
  obtain ⟨a, ha⟩ : ∃ a, a = f[v2]'(by omega) := ⟨_, rfl⟩
  obtain ⟨b, hb2⟩ : ∃ b, b = f[v3]'(by omega) := ⟨_, rfl⟩
  have x2 : ∀ m, dIx (tI f) (I v2) m = .ok (I a) m := fun m => v_ixT (atI_nat (by rw [List.getElem?_map, List.getElem?_eq_getElem (by omega), ha]; rfl))
  have x3 : ∀ m, dIx (tI f) (I v3) m = .ok (I b) m := fun m => v_ixT (atI_nat (by rw [List.getElem?_map, List.getElem?_eq_getElem (by omega), hb2]; rfl))
  have haq : a ∈ q := hfq a (by rw [ha]; exact List.getElem_mem _)
  have hbq : b ∈ q := hfq b (by rw [hb2]; exact List.getElem_mem _)
  have f04 : Fr h m m4 := ((p1.fr.trans f2).trans f3).trans f4
  have lenF : bLen [.ref kf] m1 = .ok (.int (fs.length : Int)) m1 := by rw [v_lenL q1]; simp
  have lenT : ∀ m, bLen [tI f] m = .ok (.int (f.length : Int)) m := fun m => by unfold tI; rw [v_lenT]; simp
  have C4 := C.fr f04
  have lenA4 : bLen [.ref ra] m4 = .ok (I arr.length) m4 := by rw [v_lenL C4.ha]; simp [I]
  have hN : dMul (.int 2) (I arr.length) m4 = .ok (I (2 * arr.length)) m4 := by rw [mul2]; simp [I]
  unfold f_law_tied afOf a_law_tied
  show Ok ((sSeq _ _ [some (.ref h), some (.ref ra), some (.ref rr), some (.bl bt), none, none, none, none, none, none, none, none, none, none] m).f) _
  have hit : iE (eCall mkTup (aCons (eCall mkTup (aCons (eVar 6) (aCons (eVar 7) (aNil)))) (aCons (eCall mkTup (aCons (eVar 7) (aCons (eVar 6) (aNil)))) (aNil)))) [some (.ref h), some (.ref ra), some (.ref rr), some (.bl bt), some (.ref kf), some (tI f), some (I a), some (I b), some (I (2 * arr.length)), none, none, none, none, none] m4 = .ok ([.tup [I a, I b], .tup [I b, I a]], []) m4 := by
    rw [w_iE, e_call (a_c (e_call (a_c rfl (a_c rfl rfl)) mk2) (a_c (e_call (a_c rfl (a_c rfl rfl)) mk2) rfl)) mk2, v_bind, w_itT]
  rw [v_seq, s_asg (e_call (a_c rfl rfl) e1), v_nx, v_seq]
  show Ok ((O.seq (sAsg _ (gN 5) [some (.ref h), some (.ref ra), some (.ref rr), some (.bl bt), some (.ref kf), none, none, none, none, none, none, none, none, none] m1) _).f) _
  rw [s_asg (e_op rfl (e_call (a_c rfl (a_c (e_call (a_c rfl rfl) lenF) rfl)) e2) x1), v_nx, v_seq]
  show Ok ((O.seq (sPar2 6 7 _ [some (.ref h), some (.ref ra), some (.ref rr), some (.bl bt), some (.ref kf), some (tI f), none, none, none, none, none, none, none, none] m2) _).f) _
  rw [s_par2 (a_c (e_op rfl (e_call (a_c rfl (a_c (e_call (a_c rfl rfl) (lenT _)) rfl)) e3) (x2 _)) (a_c (e_op rfl (e_call (a_c rfl (a_c (e_call (a_c rfl rfl) (lenT _)) rfl)) e4) (x3 _)) rfl)), v_nx, v_seq]
  show Ok ((O.seq (sAsg _ (gN 8) [some (.ref h), some (.ref ra), some (.ref rr), some (.bl bt), some (.ref kf), some (tI f), some (I a), some (I b), none, none, none, none, none, none] m4) _).f) _
  rw [s_asg (e_op rfl (e_call (a_c rfl rfl) lenA4) hN), v_nx, v_seq]
  refine rn_f ?_
  show Rn (sFor _ _ _ [some (.ref h), some (.ref ra), some (.ref rr), some (.bl bt), some (.ref kf), some (tI f), some (I a), some (I b), some (I (2 * arr.length)), none, none, none, none, none] m4) _ _
  rw [w_for, hit, v_o]
  let Inv : List D → Env' → Mem → Prop := fun rest e' m' => ∃ (l : List (Nat × Nat)) (y9 y10 y11 y12 y13 : Option D), rest = l.map (fun p => .tup [I p.1, I p.2]) ∧ (∀ p ∈ l, p.1 ∈ q ∧ p.2 ∈ q) ∧ e' = [some (.ref h), some (.ref ra), some (.ref rr), some (.bl bt), some (.ref kf), some (tI f), some (I a), some (I b), some (I (2 * arr.length)), y9, y10, y11, y12, y13] ∧ Fr h m4 m' ∧ HandOK h m'
  refine rn_mono (forL_rn (b := tBody) (QR := Grown h m arr.length) Inv ?_ (fun _ _ _ => gd_nil) _ _ _ ⟨[(a, b), (b, a)], none, none, none, none, none, rfl, ?_, rfl, .refl, H4⟩) (fun _ _ q => q) ?_
  · rintro d rest e1 m5 ⟨l, y9, y10, y11, y12, y13, w1, w2, rfl, w3, w4⟩
    cases l with
    | nil => cases w1
    | cons p l =>
      rw [List.map_cons] at w1
      cases w1
      have hp := w2 p List.mem_cons_self
      refine ⟨gd_nil, [some (.ref h), some (.ref ra), some (.ref rr), some (.bl bt), some (.ref kf), some (tI f), some (I a), some (I b), some (I (2 * arr.length)), some (I p.1), some (I p.2), y11, y12, y13], rfl, ?_⟩
      refine rn_mono (tied_body (f04.trans w3) w4 (C4.fr w3) g hb F hF hq hp.1 hp.2) (fun _ _ z => z) ?_
      rintro e' m' ⟨u1, u2, z11, z12, z13, rfl⟩
      exact ⟨l, _, _, _, _, _, rfl, fun z hz => w2 z (List.mem_cons_of_mem _ hz), rfl, w3.trans u1, u2⟩
  · intro p hp
    simp only [List.mem_cons, List.not_mem_nil, or_false] at hp
    rcases hp with rfl | rfl
    · exact ⟨haq, hbq⟩
    · exact ⟨hbq, haq⟩
  · rintro e' m5 ⟨l, y9, y10, y11, y12, y13, w1, w2, rfl, w3, w4⟩
    rw [s_ret (e_call (a_c rfl (a_c rfl rfl)) mk2), v_frt]
    exact ⟨ra, rr, arr, rs, rfl, f04.trans w3, w4, C4.fr w3, g, by omega⟩
end Cl
set_option Elab.async false
set_option linter.all false
set_option maxRecDepth 100000
namespace Cl
open PySem PySem.Spec PyProof.Rows L2 Ab
theorem w_growB {h : Nat} {bt : Bool} {m : Mem} {ra rr n : Nat} {arr : List (Nat × Nat)} {rs : List (List Nat)} {x1 x5 x6 : Option D} {tl : Env'} (H : HandOK h m) (C : ChM h m ra rr arr rs) (g : G arr rs) (hb : arr.length ≤ n) (hn : n < 100) :
    Nx (wGrow (some (.ref h) :: x1 :: some (.bl bt) :: some (.ref ra) :: some (.ref rr) :: x5 :: x6 :: tl) m) fun e' m' => Fr h m m' ∧ HandOK h m' ∧ ∃ ra' rr' arr' rs' y6, e' = some (.ref h) :: x1 :: some (.bl bt) :: some (.ref ra') :: some (.ref rr') :: x5 :: y6 :: tl ∧ ChM h m' ra' rr' arr' rs' ∧ G arr' rs' ∧ arr'.length ≤ n + 1 := by
  obtain ⟨m1, hm1⟩ : ∃ m1, m1 = m ++ [Cell.lst [.fn "_law_hung", .fn "_law_tied", .fn "_law_tied"]] := ⟨_, rfl⟩
  have p1 : Pre m m1 := by rw [hm1]; exact .add
  have hh : h < m.length := by
    obtain ⟨_, _, _, _, _, _, z, _⟩ := H
    exact (List.getElem?_eq_some_iff.mp z).1
  have q1 : m1[m.length]? = some (.lst [.fn "_law_hung", .fn "_law_tied", .fn "_law_tied"]) := by rw [hm1]; exact new_get
  obtain ⟨_, m2, e1, v, rfl, hv, f2, H2⟩ := ok_ex (w_draw (H.pre p1) (many := 3) (by decide) (by decide))
  have q2 := f2 _ _ q1 (by omega)
  have f02 := p1.fr.trans f2
  have C2 := C.fr f02
  have step : ∀ (x : Str) (af : AF), dp_law_chart x = some (4, af) → dIx (.ref m.length) (I v) m2 = .ok (.fn x) m2 → Ok (af [.ref h, .ref ra, .ref rr, .bl bt] m2) (Grown h m2 arr.length) → Nx (wGrow (some (.ref h) :: x1 :: some (.bl bt) :: some (.ref ra) :: some (.ref rr) :: x5 :: x6 :: tl) m) fun e' m' => Fr h m m' ∧ HandOK h m' ∧ ∃ ra' rr' arr' rs' y6, e' = some (.ref h) :: x1 :: some (.bl bt) :: some (.ref ra') :: some (.ref rr') :: x5 :: y6 :: tl ∧ ChM h m' ra' rr' arr' rs' ∧ G arr' rs' ∧ arr'.length ≤ n + 1 := by
    intro x af hx hi hok
    have s1 : sAsg (eOp dIx (eCall mkLst (aCons (eC (.fn "_law_hung")) (aCons (eC (.fn "_law_tied")) (aCons (eC (.fn "_law_tied")) (aNil))))) (eCall f_law_draw (aCons (eVar 0) (aCons (eC (.int 3)) (aNil))))) (gN 6) (some (.ref h) :: x1 :: some (.bl bt) :: some (.ref ra) :: some (.ref rr) :: x5 :: x6 :: tl) m = .nx (some (.ref h) :: x1 :: some (.bl bt) :: some (.ref ra) :: some (.ref rr) :: x5 :: some (.fn x) :: tl) m2 := by
      simp [mkL3, ← hm1, e1, hi]
    unfold wGrow
    rw [v_seq, s1, v_nx, v_asg]
    rw [w_callV (x := x) (m1 := m2) (m2 := m2) (ds := [.ref h, .ref ra, .ref rr, .bl bt]) rfl hx rfl rfl]
    refine nx_o (ok_mono hok ?_)
    rintro d m3 ⟨ra', rr', arr', rs', rfl, f3, H3, C3, g3, l3⟩
    simp
    exact ⟨f02.trans f3, H3, ra', rr', ⟨rfl, rfl⟩, arr', rs', C3, g3, by omega⟩
  match v, hv with
  | 0, _ => exact step _ _ dp_hung (v_ixL q2 (atI_nat rfl)) (w_hungB H2 C2 g (by omega))
  | 1, _ => exact step _ _ dp_tied (v_ixL q2 (atI_nat rfl)) (w_tiedB H2 C2 g (by omega))
  | 2, _ => exact step _ _ dp_tied (v_ixL q2 (atI_nat rfl)) (w_tiedB H2 C2 g (by omega))
theorem w_chartB {h most : Nat} {bt : Bool} {m : Mem} (H : HandOK h m) (hm : 0 < most) (hm2 : most < 40) : Ok (f_law_chart [.ref h, I most, .bl bt] m) fun d m' => Fr h m m' ∧ HandOK h m' ∧ ∃ arr rs outer ps, Drawn' d most arr rs outer ps := by
  have hz : sizeLine = 2 ^ 24 := rfl
  unfold f_law_chart afOf a_law_chart
  rw [v_seq]
  refine seq_f ?_
  show Nx (sAsg wStart (gT 2 (gsCons (gN 3) (gsCons (gN 4) gsNil))) [some (.ref h), some (I most), some (.bl bt), none, none, none, none, none, none, none, none, none, none] m) _
  rw [v_asg]
  refine nx_o (ok_mono (w_start H) ?_)
  rintro d m1 ⟨f1, ra, rr, arr, rs, rfl, H1, C1, g1, l1⟩
  have s1 : gT 2 (gsCons (gN 3) (gsCons (gN 4) gsNil)) (.tup [.ref ra, .ref rr]) [some (.ref h), some (I most), some (.bl bt), none, none, none, none, none, none, none, none, none, none] m1 = .ok [some (.ref h), some (I most), some (.bl bt), some (.ref ra), some (.ref rr), none, none, none, none, none, none, none, none] m1 := rfl
  rw [s1, v_o, nx_nx, v_seq]
  refine seq_f ?_
  obtain ⟨_, m2, e2, v, rfl, hv, f2, H2⟩ := ok_ex (w_draw H1 (many := (most : Int)) (by omega) (by omega))
  have e2' : (aCons (eCall f_law_draw (aCons (eVar 0) (aCons (eVar 1) aNil))) aNil) [some (.ref h), some (I most), some (.bl bt), some (.ref ra), some (.ref rr), none, none, none, none, none, none, none, none] m1 = .ok [I v] m2 := by
    rw [v_cons, v_call, v_cons, v_v0 (z := none), v_bind, v_cons, v_vs, v_v0 (z := none), v_bind, v_nil, v_bind, v_bind, v_bind, show f_law_draw [.ref h, I most] m1 = _ from e2, v_bind]
    rfl
  rw [w_for, w_rng1 e2' (by omega), v_o]
  have C2 := C1.fr f2
  -- growing
  let Inv : List D → Env' → Mem → Prop := fun rest e' m' => ∃ (i : Nat) (ra rr : Nat) (arr : List (Nat × Nat)) (rs : List (List Nat)) (y5 y6 : Option D), rest.length + i = v ∧ e' = [some (.ref h), some (I most), some (.bl bt), some (.ref ra), some (.ref rr), y5, y6, none, none, none, none, none, none] ∧ Fr h m2 m' ∧ HandOK h m' ∧ ChM h m' ra rr arr rs ∧ G arr rs ∧ arr.length ≤ i + 1
  refine nx_mono (forL_go (b := wGrow) Inv ?_ (fun _ _ _ => gd_nil) _ _ _ ⟨0, ra, rr, arr, rs, none, none, by simp, rfl, .refl, H2, C2, g1, l1⟩) ?_
  · rintro d rest e1 m3 ⟨i, ra, rr, arr, rs, y5, y6, h1, rfl, h3, h4, h5, h6, h7⟩
    refine ⟨gd_nil, _, rfl, ?_⟩
    refine nx_mono (w_growB (n := i + 1) h4 h5 h6 h7 (by simp at h1; omega)) ?_
    rintro e' m' ⟨k1, k2, ra', rr', arr', rs', z6, rfl, k3, k4, k5⟩
    exact ⟨i + 1, ra', rr', arr', rs', _, z6, by simp at h1; omega, rfl, h3.trans k1, k2, k3, k4, k5⟩
  · rintro e' m3 ⟨i, ra, rr, arr, rs, y5, y6, h1, rfl, h3, h4, h5, h6, h7⟩
    simp at h1
    have hn : arr.length ≤ most := by omega
    obtain ⟨_, m4, e4, kind, rfl, hk, f4, H4⟩ := ok_ex (w_draw h4 (many := 4) (by decide) (by decide))
    obtain ⟨m5, hm5⟩ : ∃ m5, m5 = m4 ++ [Cell.lst []] := ⟨_, rfl⟩
    have p5 : Pre m4 m5 := by rw [hm5]; exact .add
    have q5 : m5[m4.length]? = some (.lst []) := by rw [hm5]; exact new_get
    obtain ⟨c, H4c⟩ := H4.ex
    have hlt := H4c.lt
    have H5 := H4c.pre p5
    have C5 := (h5.fr f4).fr p5.fr
    have s4 : sAsg (eCall f_law_draw (aCons (eVar 0) (aCons (eC (.int 4)) (aNil)))) (gN 7) [some (.ref h), some (I most), some (.bl bt), some (.ref ra), some (.ref rr), y5, y6, none, none, none, none, none, none] m3 = .nx [some (.ref h), some (I most), some (.bl bt), some (.ref ra), some (.ref rr), y5, y6, some (I kind), none, none, none, none, none] m4 := by
      rw [v_asg, v_call, v_cons, v_v0 (z := none), v_bind, v_cons, v_c, v_bind, v_nil, v_bind, v_bind, v_bind, e4, v_o, v_gN, v_o]; rfl
    have s5 : sAsg (eCall mkLst aNil) (gN 8) [some (.ref h), some (I most), some (.bl bt), some (.ref ra), some (.ref rr), y5, y6, some (I kind), none, none, none, none, none] m4 = .nx [some (.ref h), some (I most), some (.bl bt), some (.ref ra), some (.ref rr), y5, y6, some (I kind), some (.ref m4.length), none, none, none, none] m5 := by
      rw [v_asg, v_call, v_nil, v_bind, mk0, v_o, v_gN, v_o, hm5]; rfl
    rw [v_seq, s4, v_nx, v_seq, s5, v_nx, v_seq]
    refine seq_f ?_
    have hra : ∀ m', Kp [h, m4.length] m5 m' → m'[ra]? = some (.lst (arr.map pD)) := fun m' a => a _ _ C5.ha (by
      have := (List.getElem?_eq_some_iff.mp (h5.fr f4).ha).1
      have := C5.na
      simp
      omega)
    have e6 : (eVar 3 [some (.ref h), some (I most), some (.bl bt), some (.ref ra), some (.ref rr), y5, y6, some (I kind), some (.ref m4.length), none, none, none, none] m5).bind itD = .ok (arr.map pD, [(ra, .lst (arr.map pD))]) m5 := by
      show itD (.ref ra) m5 = _
      unfold itD
      simp only [C5.ha]
    rw [w_for, w_iE, e6, v_o]
    let Inv2 : List D → Env' → Mem → Prop := fun rest e' m' => ∃ (ps : List D) (y9 y10 : Option D), rest.length + ps.length = arr.length ∧ e' = [some (.ref h), some (I most), some (.bl bt), some (.ref ra), some (.ref rr), y5, y6, some (I kind), some (.ref m4.length), y9, y10, none, none] ∧ Kp [h, m4.length] m5 m' ∧ HandC h c m' ∧ m'[m4.length]? = some (.lst ps) ∧ ∀ p ∈ ps, PriceOK p
    have gd : ∀ m', Kp [h, m4.length] m5 m' → Gd.Ok [(ra, .lst (arr.map pD))] m' := fun m' a p hp => by
      rw [List.mem_singleton.mp hp]; exact hra m' a
    refine nx_mono (forL_go (b := wPrice) Inv2 ?_ ?_ _ _ _ ⟨[], none, none, by simp, rfl, .refl, H5, q5, fun _ z => (by cases z)⟩) ?_
    · rintro d rest e1 m6 ⟨ps, y9, y10, k1, rfl, k3, k4, k5, k6⟩
      refine ⟨gd _ k3, _, rfl, ?_⟩
      refine nx_mono (w_price (kind := kind) k4 (by omega) k5 (by omega) (by omega) (by simp at k1; omega)) ?_
      rintro e' m' ⟨⟨z10, rfl⟩, w1, w2, p, w3, w4⟩
      refine ⟨ps ++ [p], _, z10, by simp at k1 ⊢; omega, rfl, k3.trans w1, w2, w4, fun x hx => ?_⟩
      rcases List.mem_append.mp hx with z | z
      · exact k6 x z
      · rw [List.mem_singleton.mp z]; exact w3
    · rintro e1 m6 ⟨ps, y9, y10, k1, rfl, k3, k4, k5, k6⟩
      exact gd _ k3
    · rintro e1 m6 ⟨ps, y9, y10, k1, rfl, k3, k4, k5, k6⟩
      simp at k1
      have hpos := h6.pos
      obtain ⟨_, m7, e7, outer, rfl, ho, f7, H7⟩ := ok_ex (w_draw k4.ok (many := 2 * (arr.length : Int)) (by omega) (by omega))
      have f56 : Fr h m4 m6 := fun i cc e n => k3 _ _ (p5 _ _ e) (by
        have := (List.getElem?_eq_some_iff.mp e).1
        simp
        omega)
      have F7 : Fr h m m7 := (((f1.trans f2).trans h3).trans f4).trans (f56.trans f7)
      have C7 := ((h5.fr f4).fr f56).fr f7
      have q7 := f7 _ _ k5 (by omega)
      have lenA : bLen [.ref ra] m6 = .ok (.int (arr.length : Int)) m6 := by rw [v_lenL (hra _ k3)]; simp
      obtain ⟨ks, r1, r2, r3⟩ := C7.hr
      have lenR : bLen [.ref rr] m7 = .ok (I rs.length) m7 := by rw [v_lenL r1]; simp [r2, I]
      have tA : bTuple [.ref ra] m7 = .ok (.tup (arr.map pD)) m7 := v_tupL C7.ha
      -- the rounds, as tuples
      have lc : Ok (eLc (iE (eVar 4)) (gN 12) (tYesA) (eCall bTuple (aCons (eVar 12) (aNil))) [12] [some (.ref h), some (I most), some (.bl bt), some (.ref ra), some (.ref rr), y5, y6, some (I kind), some (.ref m4.length), y9, y10, some (I outer), none] m7) fun d m' => d = .ref m7.length ∧ Pre m7 m' ∧ m'[m7.length]? = some (.lst (rs.map tI)) := by
        have hne : m7.length ≠ rr := by
          have := (List.getElem?_eq_some_iff.mp r1).1
          omega
        have p8 : Pre m7 (m7 ++ [Cell.lst []]) := .add
        have hit : (eVar 4 [some (.ref h), some (I most), some (.bl bt), some (.ref ra), some (.ref rr), y5, y6, some (I kind), some (.ref m4.length), y9, y10, some (I outer), none] m7).bind itD = .ok (ks.map D.ref, [(rr, .lst (ks.map D.ref))]) m7 := by
          show itD (.ref rr) m7 = _
          unfold itD
          simp only [r1]
        unfold eLc
        rw [w_iE, hit, v_bind]
        have key := lcL_map (tg := gN 12) (el := eCall bTuple (aCons (eVar 12) (aNil))) (gd := [(rr, .lst (ks.map D.ref))]) (env := wipeE [some (.ref h), some (I most), some (.bl bt), some (.ref ra), some (.ref rr), y5, y6, some (I kind), some (.ref m4.length), y9, y10, some (I outer), none] [12]) (p0 := m7.length) (m0 := m7 ++ [Cell.lst []])
          (fun m' a p hp => by rw [List.mem_singleton.mp hp]; exact a _ _ (p8 _ _ r1) (by simp; omega)) (ks.map D.ref) (rs.map tI) (m7 ++ [Cell.lst []]) [] .refl (by simpa using r2) (fun i d x a b m' hk => by
            rw [List.getElem?_map] at a b
            cases hi : ks[i]? with
            | none => rw [hi] at a; cases a
            | some k =>
              cases hj : rs[i]? with
              | none => rw [hj] at b; cases b
              | some r =>
                rw [hi] at a; rw [hj] at b
                cases a; cases b
                have hkr := r3 i k r hi hj
                have hlt2 := (List.getElem?_eq_some_iff.mp hkr.1).1
                refine ⟨_, rfl, ?_⟩
                have := hk _ _ (p8 _ _ hkr.1) (by simp; omega)
                show (aCons (eVar 12) aNil (List.set _ 12 (some (.ref k))) m').bind bTuple = _
                show bTuple [.ref k] m' = _
                exact v_tupL this) new_get (by have := h6.rows; simp; omega)
        obtain ⟨_, m8, w1, w2, w3⟩ := ok_ex key
        dsimp only
        rw [w1]
        refine ⟨rfl, fun j cc e => w2 _ _ (p8 _ _ e) ?_, by simpa using w3⟩
        have := (List.getElem?_eq_some_iff.mp e).1
        simp
        omega
      obtain ⟨_, m8, w1, rfl, w2, w3⟩ := ok_ex lc
      have tR : bTuple [.ref m7.length] m8 = .ok (.tup (rs.map tI)) m8 := v_tupL w3
      have tP : bTuple [.ref m4.length] m8 = .ok (.tup ps) m8 := v_tupL (w2 _ _ q7)
      have m2a : ∀ (w : Int) (m : Mem), dMul (.int 2) (.int w) m = .ok (.int (2 * w)) m := fun w m => v_mul (.inl (by decide))
      have fin : Fr h m m8 ∧ HandOK h m8 ∧ ∃ arr' rs' outer' ps', Drawn' (.tup [I rs.length, .tup (arr.map pD), .tup (rs.map tI), I outer, .tup ps]) most arr' rs' outer' ps' :=
        ⟨F7.trans w2.fr, HandOK.pre H7 w2, arr, rs, outer, ps, ⟨rfl, h6, hn, by omega, by omega, k6⟩⟩
      have s7 : sAsg (eCall f_law_draw (aCons (eVar 0) (aCons (eOp dMul (eC (.int 2)) (eCall bLen (aCons (eVar 3) (aNil)))) (aNil)))) (gN 11) [some (.ref h), some (I most), some (.bl bt), some (.ref ra), some (.ref rr), y5, y6, some (I kind), some (.ref m4.length), y9, y10, none, none] m6 = .nx [some (.ref h), some (I most), some (.bl bt), some (.ref ra), some (.ref rr), y5, y6, some (I kind), some (.ref m4.length), y9, y10, some (I outer), none] m7 := by
        simp [lenA, m2a, e7]
      rw [v_seq, s7, v_nx, v_ret]
      have s8 : (eCall mkTup (aCons (eCall bLen (aCons (eVar 4) (aNil))) (aCons (eCall bTuple (aCons (eVar 3) (aNil))) (aCons (eCall bTuple (aCons (eLc (iE (eVar 4)) (gN 12) (tYesA) (eCall bTuple (aCons (eVar 12) (aNil))) [12]) (aNil))) (aCons (eVar 11) (aCons (eCall bTuple (aCons (eVar 8) (aNil))) (aNil))))))) [some (.ref h), some (I most), some (.bl bt), some (.ref ra), some (.ref rr), y5, y6, some (I kind), some (.ref m4.length), y9, y10, some (I outer), none] m7 = .ok (.tup [I rs.length, .tup (arr.map pD), .tup (rs.map tI), I outer, .tup ps]) m8 := by
        simp [lenR, tA, w1, tR, tP]
      rw [s8, v_o, v_frt]
      exact fin
end Cl
set_option Elab.async false
set_option linter.all false
set_option maxRecDepth 100000
namespace Cl
open PySem PySem.Spec PyProof.Rows L2 Ab
/-! # the law's own walks are the rims -/
theorem sort_eq {l l' : List Nat} (h : l.Perm l') (hs : l'.Pairwise (· < ·)) : (sortI (l.map fun (n : Nat) => (n : Int))).map D.int = l'.map I := by
  have hp := (sortI_perm (l.map fun (n : Nat) => (n : Int))).trans (h.map fun (n : Nat) => (n : Int))
  have s2 : (l'.map fun (n : Nat) => (n : Int)).Pairwise (· ≤ ·) := by
    rw [List.pairwise_map]
    exact hs.imp fun {a b} q => by omega
  have := List.Perm.eq_of_pairwise (fun a b _ _ h1 h2 => Int.le_antisymm h1 h2) (sortI_sorted _) s2 hp
  rw [this, List.map_map]
  rfl
theorem t_notIn {e : Env'} {m : Mem} {i j n x : Nat} {kvs : List (Key × D)} {b : Bool} (h1 : eVar i e m = .ok (I x) m) (h2 : eVar j e m = .ok (.ref n) m) (h3 : m[n]? = some (.dic kvs)) (h4 : (valD kvs (.inl (x : Int))).isSome = b) : tVal (eOp dNotIn (eVar i) (eVar j)) e m = .ok (!b) m :=
  t_v (e_op h1 h2 (by rw [v_notIn h3, h4]))
theorem put_some {kvs : List (Key × D)} {x e : Nat} {v : D} {S : Nat → Prop} [DecidablePred S] (h : ∀ e : Nat, (valD kvs (.inl (e : Int))).isSome = decide (S e)) : (valD (putD kvs (.inl (x : Int)) v) (.inl (e : Int))).isSome = decide (S e ∨ e = x) := by
  rw [valD_put, h e]
  by_cases z : e = x
  · subst z; simp
  · have : ¬ ((Sum.inl (e : Int) : Key) = .inl (x : Int)) := fun q => z (by have := Sum.inl.inj q; omega)
    simp [z, this]
theorem w_walkX {rs rims : List (List Nat)} {N : Nat} (F : Ch.Flat rs rims N) {a : Nat} {s t : List Nat} (hq : s ++ a :: t ∈ rims) {ka k6 k8 : Nat} {S : Nat → Prop} [DecidablePred S] {R0 : D} {x2 x3 x4 x5 x7 x10 : Option D} {m : Mem} {kvs : List (Key × D)} {ds : List D}
    (hm1 : m[ka]? = some (.dic (aK rs rs.flatten))) (hm6 : m[k6]? = some (.dic kvs)) (hm8 : m[k8]? = some (.lst [])) (hS : ∀ e : Nat, (valD kvs (.inl (e : Int))).isSome = decide (S e)) (hnew : ∀ e ∈ a :: (t ++ s), ¬ S e) (n1 : ka ≠ k6) (n2 : ka ≠ k8) (n3 : k6 ≠ k8) (hk : kvs.length + ds.length < 60000) (hds : (a :: (t ++ s)).length ≤ ds.length) :
    Nx (forL (gN 10) wIn [] ds [some R0, some (.ref ka), x2, x3, x4, x5, some (.ref k6), x7, some (.ref k8), some (I a), x10] m) fun e' m' => (∃ y9 y10, e' = [some R0, some (.ref ka), x2, x3, x4, x5, some (.ref k6), x7, some (.ref k8), y9, y10]) ∧ Kp [k6, k8] m m' ∧
      ∃ (kvs' : List (Key × D)), m'[k6]? = some (.dic kvs') ∧ kvs'.length ≤ kvs.length + (a :: (t ++ s)).length ∧ (∀ e : Nat, (valD kvs' (.inl (e : Int))).isSome = decide (S e ∨ e ∈ a :: (t ++ s))) ∧ m'[k8]? = some (.lst ((a :: (t ++ s)).map I)) := by
  obtain ⟨L, hL⟩ : ∃ L, L = t ++ s := ⟨_, rfl⟩
  rw [← hL] at hnew hds ⊢
  have old : ∀ p, p ∈ Ch.cy (s ++ a :: t) ↔ p ∈ Ch.pp (a :: (L ++ [a])) := fun p => by rw [Ch.cy_cut, ← hL]; rfl
  have hnd : (a :: L).Nodup := by
    rw [hL]
    exact (List.perm_append_comm (l₁ := s) (l₂ := a :: t)).nodup_iff.mp (Ch.flat_nd F.md hq)
  have inN : ∀ e, e ∈ a :: L → e < N := fun e he => by
    have : e ∈ s ++ a :: t := by
      rw [hL] at he
      exact (List.perm_append_comm (l₁ := s) (l₂ := a :: t)).mem_iff.mpr he
    exact List.mem_range.mp (F.mN.mem_iff.mp (List.mem_flatten.mpr ⟨_, hq, this⟩))
  have go : ∀ (l1 l2 : List Nat) (c : Nat), a :: L = l1 ++ c :: l2 → ∀ m', m'[ka]? = some (.dic (aK rs rs.flatten)) → dIx (.ref ka) (I (Ch.o c)) m' = .ok (I ((l2 ++ [a]).head (by simp))) m' := by
    intro l1 l2 c hc m' hm'
    have hp : (c, (l2 ++ [a]).head (by simp)) ∈ Ch.cy (s ++ a :: t) := by
      rw [old, show a :: (L ++ [a]) = l1 ++ c :: (l2 ++ [a]) by rw [← List.cons_append, hc]; simp, Ch.pp_cut, List.mem_append]
      right
      cases l2 with
      | nil => exact List.mem_cons_self
      | cons b l2 => exact List.mem_cons_self
    have hP := F.ad _ hq _ _ hp
    have hcN : c < N := inN c (by rw [hc]; simp)
    have hom : Ch.o c ∈ rs.flatten := F.rN.mem_iff.mpr (List.mem_range.mpr (Ch.o_lt F.ev hcN))
    exact v_getD hm' (by rw [aK_get hom, Ch.prd_eq F.nd hP])
  let Inv : List D → Env' → Mem → Prop := fun rest e' m' => ∃ (l1 l2 : List Nat) (y10 : Option D) (kvs' : List (Key × D)), a :: L = l1 ++ l2 ∧ (l2 = [] ∨ rest.length + l1.length = ds.length) ∧ e' = [some R0, some (.ref ka), x2, x3, x4, x5, some (.ref k6), x7, some (.ref k8), some (I ((l2 ++ [a]).head (by simp))), y10] ∧ Kp [k6, k8] m m' ∧
    m'[k6]? = some (.dic kvs') ∧ kvs'.length ≤ kvs.length + l1.length ∧ (∀ e : Nat, (valD kvs' (.inl (e : Int))).isSome = decide (S e ∨ e ∈ l1)) ∧ m'[k8]? = some (.lst (l1.map I))
  refine nx_mono (forL_go (b := wIn) Inv ?_ (fun _ _ _ => gd_nil) _ _ _ ⟨[], a :: L, x10, kvs, rfl, .inr rfl, rfl, .refl, hm6, by simp, by simpa using hS, by simpa using hm8⟩) ?_
  · rintro d rest e1 m1 ⟨l1, l2, y10, kvs', h1, h2, rfl, h4, h5, h6, h7, h8⟩
    refine ⟨gd_nil, _, rfl, ?_⟩
    have hka : m1[ka]? = some (.dic (aK rs rs.flatten)) := h4 _ _ hm1 (by simp [n1, n2])
    cases l2 with
    | nil =>
      have hs : (valD kvs' (.inl (a : Int))).isSome = true := by
        rw [h7]
        have : a ∈ l1 := by simp at h1; rw [← h1]; simp
        simp [this]
      show Nx (wIn [some R0, some (.ref ka), x2, x3, x4, x5, some (.ref k6), x7, some (.ref k8), some (I a), some d] m1) _
      unfold wIn
      rw [v_sifF (t_notIn (b := true) rfl rfl h5 hs), v_skip]
      exact ⟨l1, [], some d, kvs', h1, .inl rfl, rfl, h4, h5, h6, h7, h8⟩
    | cons c l2 =>
      have hc : c ∈ a :: L := by rw [h1]; simp
      have hcl : c ∉ l1 := fun z => by
        rw [h1, List.nodup_append] at hnd
        exact hnd.2.2 c z c (by simp) rfl
      have hs : (valD kvs' (.inl (c : Int))).isSome = false := by
        rw [h7]
        simp [hnew c hc, hcl]
      have hlen : rest.length + 1 + l1.length = ds.length := by
        rcases h2 with z | z
        · cases z
        · simpa using z
      have hl1 : l1.length < 60000 := by omega
      have hset : dSet (.ref k6) (I c) (.bl true) m1 = .ok () (m1.set k6 (.dic (putD kvs' (.inl (c : Int)) (.bl true)))) := v_setD h5 (by omega)
      have hg8 : (m1.set k6 (.dic (putD kvs' (.inl (c : Int)) (.bl true))))[k8]? = some (.lst (l1.map I)) := by rw [List.getElem?_set_ne n3]; exact h8
      obtain ⟨m2, hm2⟩ : ∃ m2, m2 = (m1.set k6 (.dic (putD kvs' (.inl (c : Int)) (.bl true)))).set k8 (.lst (l1.map I ++ [I c])) := ⟨_, rfl⟩
      have happ : mAppend (.ref k8) [I c] (m1.set k6 (.dic (putD kvs' (.inl (c : Int)) (.bl true)))) = .ok .non m2 := by rw [hm2]; exact v_append hg8 (by simp; omega)
      have hka2 : m2[ka]? = some (.dic (aK rs rs.flatten)) := by rw [hm2, List.getElem?_set_ne (Ne.symm n2), List.getElem?_set_ne (Ne.symm n1)]; exact hka
      show Nx (wIn [some R0, some (.ref ka), x2, x3, x4, x5, some (.ref k6), x7, some (.ref k8), some (I c), some d] m1) _
      unfold wIn
      rw [v_sifT (t_notIn (b := false) rfl rfl h5 hs), v_seq, s_set rfl rfl rfl hset, v_nx, v_seq, s_exp (e_mt rfl (w_isL hg8) (a_c rfl rfl) happ), v_nx, s_asg (e_op rfl (e_call (a_c rfl rfl) (w_other _ _)) (go l1 l2 c h1 m2 hka2)), nx_nx]
      refine ⟨l1 ++ [c], l2, some d, putD kvs' (.inl (c : Int)) (.bl true), by rw [h1]; simp, .inr (by simp; omega), rfl, h4.trans ?_, ?_, ?_, fun e => ?_, ?_⟩
      · rw [hm2]; exact (Kp.set (by simp)).trans (Kp.set (by simp))
      · rw [hm2, List.getElem?_set_ne (Ne.symm n3)]; exact get_set h5
      · have := putD_len kvs' (.inl (c : Int)) (.bl true); simp; omega
      · rw [put_some h7]
        simp [or_assoc]
      · rw [hm2, get_set hg8]; simp
  · rintro e1 m1 ⟨l1, l2, y10, kvs', h1, h2, rfl, h4, h5, h6, h7, h8⟩
    have hl2 : l2 = [] := by
      rcases h2 with z | z
      · exact z
      · cases l2 with
        | nil => rfl
        | cons c l2 =>
          have := congrArg List.length h1
          simp at this z hds
          omega
    subst hl2
    simp at h1
    rw [h1]
    exact ⟨⟨_, _, rfl⟩, h4, kvs', h5, h6, h7, h8⟩
end Cl
set_option Elab.async false
set_option linter.all false
set_option maxRecDepth 100000
namespace Cl
open PySem PySem.Spec PyProof.Rows L2 Ab
theorem rims_len {rs rims : List (List Nat)} {N : Nat} (F : Ch.Flat rs rims N) : rims.length ≤ N := by
  have h14 := F.mN.length_eq
  rw [List.length_range, List.length_flatten] at h14
  have : ∀ (l : List (List Nat)), (∀ r ∈ l, r ≠ []) → l.length ≤ (l.map List.length).sum := by
    intro l
    induction l with
    | nil => simp
    | cons r l ih =>
      intro hr
      have h1 := ih fun r hr2 => hr r (List.mem_cons_of_mem _ hr2)
      have h2 : 0 < r.length := List.length_pos_iff.mpr (hr r List.mem_cons_self)
      simp
      omega
  have := this rims F.ne
  omega
theorem w_outX {rs rims : List (List Nat)} {N : Nat} (F : Ch.Flat rs rims N) (hN : N ≤ 200) {ka k5 k6 kl : Nat} {R0 : D} {x2 x3 x4 x7 x8 x9 x10 : Option D} {m : Mem}
    (hm1 : m[ka]? = some (.dic (aK rs rs.flatten))) (hm5 : m[k5]? = some (.lst [])) (hm6 : m[k6]? = some (.dic [])) (hml : m[kl]? = some (.lst ((List.range N).map I))) (n1 : ka ≠ k6) (n2 : ka ≠ k5) (n3 : k5 ≠ k6) (n4 : kl ≠ k5) (n5 : kl ≠ k6) :
    Nx (forL (gN 7) wOut [(kl, .lst ((List.range N).map I))] ((List.range N).map I) [some R0, some (.ref ka), x2, x3, x4, some (.ref k5), some (.ref k6), x7, x8, x9, x10] m) fun e' m' => (∃ y7 y8 y9 y10, e' = [some R0, some (.ref ka), x2, x3, x4, some (.ref k5), some (.ref k6), y7, y8, y9, y10]) ∧ Kp [k5, k6] m m' ∧
      m'[k5]? = some (.lst ((rimsX rims (List.range N)).map tI)) := by
  have hz : sizeLine = 2 ^ 24 := rfl
  have hlenK : (aK rs rs.flatten).length = N := by
    have := F.rN.length_eq
    rw [List.length_range] at this
    unfold aK
    rw [List.length_map]; exact this
  have hrl := rims_len F
  let Inv : List D → Env' → Mem → Prop := fun rest e' m' => ∃ (a b : List Nat) (S T : List (List Nat)) (fs : List (List Nat)) (kvs : List (Key × D)), List.range N = a ++ b ∧ rest = b.map I ∧ (∃ y7 y8 y9 y10, e' = [some R0, some (.ref ka), x2, x3, x4, some (.ref k5), some (.ref k6), y7, y8, y9, y10]) ∧ Kp [k5, k6] m m' ∧
    rims.Perm (S ++ T) ∧ m'[k6]? = some (.dic kvs) ∧ kvs.length ≤ S.flatten.length ∧ (∀ e : Nat, (valD kvs (.inl (e : Int))).isSome = decide (e ∈ S.flatten)) ∧ m'[k5]? = some (.lst (fs.map tI)) ∧ fs.length = S.length ∧ (∀ e, e ∈ fs.flatten ↔ e ∈ S.flatten) ∧ fs = rimsX rims a
  have gd : ∀ e m' r, Inv r e m' → Gd.Ok [(kl, .lst ((List.range N).map I))] m' := by
    intro e m' r h p hp
    rw [List.mem_singleton.mp hp]
    obtain ⟨a, b, S, T, fs, kvs, _, _, _, h4, _⟩ := h
    exact h4 _ _ hml (by simp [n4, n5])
  refine nx_mono (forL_go (b := wOut) Inv ?_ (fun e m' h => gd e m' _ h) _ _ _ ⟨[], List.range N, [], rims, [], [], rfl, rfl, ⟨_, _, _, _, rfl⟩, .refl, .refl _, hm6, by simp, fun e => by simp [valD], by simpa using hm5, rfl, fun e => by simp, rfl⟩) ?_
  · intro d rest e1 m1 hI
    refine ⟨gd e1 m1 _ hI, ?_⟩
    obtain ⟨a, b, S, T, fs, kvs, h1, h2, ⟨y7, y8, y9, y10, rfl⟩, h4, h5, h6, h7, h8, h9, h10, h11, h12⟩ := hI
    cases b with
    | nil => cases h2
    | cons x b =>
      rw [List.map_cons] at h2
      cases h2
      refine ⟨[some R0, some (.ref ka), x2, x3, x4, some (.ref k5), some (.ref k6), some (I x), y8, y9, y10], rfl, ?_⟩
      have hxN : x < N := List.mem_range.mp (by rw [h1]; simp)
      by_cases hs : x ∈ S.flatten
      · have hv : (valD kvs (.inl (x : Int))).isSome = true := by rw [h8]; simpa using hs
        unfold wOut
        rw [v_sifF (t_notIn (b := true) rfl rfl h6 hv), v_skip]
        refine ⟨a ++ [x], b, S, T, fs, kvs, by simp [h1], rfl, ⟨_, _, _, _, rfl⟩, h4, h5, h6, h7, h8, h9, h10, h11, ?_⟩
        rw [rimsX_snoc, ← h12, if_pos ((h11 x).mpr hs)]
      · have hv : (valD kvs (.inl (x : Int))).isSome = false := by rw [h8]; simpa using hs
        have hxT : x ∈ T.flatten := by
          have : x ∈ rims.flatten := F.mN.mem_iff.mpr (List.mem_range.mpr hxN)
          have := (List.Perm.flatten h5).mem_iff.mp this
          rw [List.flatten_append, List.mem_append] at this
          rcases this with z | z
          · exact absurd z hs
          · exact z
        obtain ⟨q, hq, hxq⟩ := List.mem_flatten.mp hxT
        obtain ⟨T1, T2, hT⟩ := Ch.mem_cut hq
        obtain ⟨s, t, hst⟩ := Ch.mem_cut hxq
        have hqr : s ++ x :: t ∈ rims := by rw [← hst]; exact h5.mem_iff.mpr (List.mem_append_right _ hq)
        have hka : m1[ka]? = some (.dic (aK rs rs.flatten)) := h4 _ _ hm1 (by simp [n1, n2])
        have hperm : (x :: (t ++ s)).Perm q := by rw [hst]; exact (List.perm_append_comm (l₁ := s) (l₂ := x :: t)).symm
        have hP' : rims.Perm ((S ++ [q]) ++ (T1 ++ T2)) := by
          refine h5.trans ?_
          rw [hT]
          have : (T1 ++ q :: T2).Perm (q :: (T1 ++ T2)) := List.perm_middle
          simpa using this.append_left S
        have hfl := flat_len F hP'
        have hql : q.length = (x :: (t ++ s)).length := hperm.length_eq.symm
        have hfq : (S ++ [q]).flatten.length = S.flatten.length + q.length := by simp
        have hnew : ∀ e ∈ x :: (t ++ s), ¬ e ∈ S.flatten := fun e he hS => by
          have hnd : (S ++ T).flatten.Nodup := (List.Perm.flatten h5).nodup_iff.mp F.md
          rw [List.flatten_append, List.nodup_append] at hnd
          exact hnd.2.2 e hS e (List.mem_flatten.mpr ⟨q, hq, hperm.mem_iff.mp he⟩) rfl
        obtain ⟨m2, hm2⟩ : ∃ m2, m2 = m1 ++ [Cell.lst []] := ⟨_, rfl⟩
        have p2 : Pre m1 m2 := by rw [hm2]; exact .add
        have g8 : m2[m1.length]? = some (.lst []) := by rw [hm2]; exact new_get
        have l1 : ∀ {k : Nat} {c : Cell}, m1[k]? = some c → k ≠ m1.length := fun e => by
          have := (List.getElem?_eq_some_iff.mp e).1
          omega
        have hlen : bLen [.ref ka] m2 = .ok (I N) m2 := by rw [v_lenD (p2 _ _ hka), hlenK]; rfl
        have hx : (aCons (eCall bLen (aCons (eVar 1) (aNil))) (aNil)) [some R0, some (.ref ka), x2, x3, x4, some (.ref k5), some (.ref k6), some (I x), some (.ref m1.length), some (I x), y10] m2 = .ok [I N] m2 := a_c (e_call (a_c rfl rfl) hlen) rfl
        unfold wOut
        rw [v_sifT (t_notIn (b := false) rfl rfl h6 hv), v_seq, s_asg (m1 := m2) (x := .ref m1.length) (e_call rfl (by rw [mk0, hm2])), v_nx, v_seq]
        show Nx (O.seq (sAsg (eVar 7) (gN 9) [some R0, some (.ref ka), x2, x3, x4, some (.ref k5), some (.ref k6), some (I x), some (.ref m1.length), y9, y10] m2) _) _
        rw [s_asg (x := I x) rfl, v_nx, v_seq]
        refine seq_n ?_
        show Nx (sFor _ _ _ [some R0, some (.ref ka), x2, x3, x4, some (.ref k5), some (.ref k6), some (I x), some (.ref m1.length), some (I x), y10] m2) _
        rw [w_for, w_rng1 hx (by omega), v_o]
        refine nx_mono (w_walkX F hqr (S := fun e => e ∈ S.flatten) (x5 := some (.ref k5)) (x7 := some (I x)) (p2 _ _ hka) (p2 _ _ h6) g8 h8 hnew n1 (l1 hka) (l1 h6) (by simp; omega) (by simp at hql ⊢; omega)) ?_
        rintro e2 m3 ⟨⟨z9, z10, rfl⟩, k1, kvs', k2, k3, k4, k5'⟩
        have h53 : m3[k5]? = some (.lst (fs.map tI)) := k1 _ _ (p2 _ _ h9) (by simp [n3, l1 h9])
        have hfsl : fs.length < 2 ^ 24 := by
          have : S.length ≤ rims.length := by have := h5.length_eq; simp at this; omega
          omega
        have happ : mAppend (.ref k5) [tI (x :: (t ++ s))] m3 = .ok .non (m3.set k5 (.lst (fs.map tI ++ [tI (x :: (t ++ s))]))) := v_append h53 (by simpa using hfsl)
        rw [s_exp (e_mt rfl (w_isL h53) (a_c (e_call (a_c rfl rfl) (v_tupL k5')) rfl) happ), nx_nx]
        refine ⟨a ++ [x], b, S ++ [q], T1 ++ T2, fs ++ [x :: (t ++ s)], kvs', by simp [h1], rfl, ⟨_, _, _, _, rfl⟩, h4.trans ?_, by simpa using hP', ?_, ?_, fun e => ?_, ?_, by simp [h10], fun e => ?_, ?_⟩
        · have c1 : Kp [k5, k6] m1 m3 := fun j c e nj => by
            refine k1 j c (p2 j c e) ?_
            simp at nj ⊢
            exact ⟨nj.2, l1 e⟩
          exact c1.trans (Kp.set (by simp))
        · rw [List.getElem?_set_ne n3]; exact k2
        · rw [hfq, hql]; omega
        · rw [k4 e]
          have : e ∈ x :: (t ++ s) ↔ e ∈ q := hperm.mem_iff
          exact decide_eq_decide.mpr (by
            rw [List.flatten_append, List.mem_append, this]
            simp only [List.flatten_cons, List.flatten_nil, List.append_nil])
        · rw [get_set h53]; simp
        · have : e ∈ x :: (t ++ s) ↔ e ∈ q := hperm.mem_iff
          rw [List.flatten_append, List.flatten_append, List.mem_append, List.mem_append, h11 e]
          simp only [List.flatten_cons, List.flatten_nil, List.append_nil]
          rw [this]
        · rw [rimsX_snoc, ← h12, if_neg (fun z => hs ((h11 x).mp z)), orb_eq F.md hqr]
  · rintro e1 m1 ⟨a, b, S, T, fs, kvs, h1, h2, h3, h4, h5, h6, h7, h8, h9, h10, h11, h12⟩
    have : b = [] := by cases b with | nil => rfl | cons x b => cases h2
    subst this
    simp at h1
    refine ⟨h3, h4, ?_⟩
    rw [h9, h12, h1]
theorem w_lrims {m : Mem} {N : Nat} {rs rims : List (List Nat)} (F : Ch.Flat rs rims N) (hN : N ≤ 200) :
    Ok (f_law_rims [.tup (rs.map tI)] m) fun d m' => ∃ k, d = .ref k ∧ Pre m m' ∧ m.length ≤ k ∧ m'[k]? = some (.lst ((rimsX rims (List.range N)).map tI)) := by
  have hlf : rs.flatten.length = N := by have := F.rN.length_eq; rw [List.length_range] at this; exact this
  obtain ⟨m1, hm1⟩ : ∃ m1, m1 = m ++ [Cell.dic []] := ⟨_, rfl⟩
  have p1 : Pre m m1 := by rw [hm1]; exact .add
  have g1 : m1[m.length]? = some (.dic []) := by rw [hm1]; exact new_get
  have lt : ∀ {k : Nat} {c : Cell}, m[k]? = some c → k < m.length := fun e => (List.getElem?_eq_some_iff.mp e).1
  have hdic : ∀ e m, eCall (fun _ => mkDic []) aNil e m = .ok (.ref m.length) (m ++ [.dic []]) := fun _ _ => rfl
  unfold f_law_rims afOf a_law_rims
  rw [v_seq, v_asg, hdic, v_o, v_gN, v_o, v_nx, v_seq, ← hm1]
  refine seq_f ?_
  rw [w_for, w_iE]
  have e0 : (eVar 0 ([some (D.tup (rs.map tI))] ++ List.replicate 10 none |>.set 1 (some (.ref m.length))) m1).bind itD = .ok (rs.map tI, []) m1 := rfl
  show Nx (((eVar 0 ([some (D.tup (rs.map tI))] ++ List.replicate 10 none |>.set 1 (some (.ref m.length))) m1).bind itD).o _ _) _
  rw [e0, v_o]
  show Nx (forL (gN 2) wAh2 _ _ (some (.tup (rs.map tI)) :: some (.ref m.length) :: none :: none :: none :: List.replicate 6 none) m1) _
  refine nx_mono (w_ah2 (rs := rs) F.nd (by omega) (by simp) ?_ g1 (fun _ _ => gd_nil)) ?_
  · intro i d r e1 e2
    rw [List.getElem?_map, e2] at e1
    cases e1
    exact rowAt_tup F.nd (List.mem_of_getElem? e2)
  · rintro e2 m2 ⟨⟨y2, y3, y4, rfl⟩, f2, g2⟩
    have p2 : Pre m m2 := fun i c e => f2 i c (p1 i c e) (by have := lt e; omega)
    have lka : m.length < m2.length := (List.getElem?_eq_some_iff.mp g2).1
    obtain ⟨m3, hm3⟩ : ∃ m3, m3 = m2 ++ [Cell.lst []] := ⟨_, rfl⟩
    obtain ⟨m4, hm4⟩ : ∃ m4, m4 = m3 ++ [Cell.dic []] := ⟨_, rfl⟩
    obtain ⟨m5, hm5⟩ : ∃ m5, m5 = m4 ++ [Cell.lst (rs.flatten.map I)] := ⟨_, rfl⟩
    obtain ⟨m6, hm6⟩ : ∃ m6, m6 = m5 ++ [Cell.lst ((List.range N).map I)] := ⟨_, rfl⟩
    have p3 : Pre m2 m3 := by rw [hm3]; exact .add
    have p4 : Pre m3 m4 := by rw [hm4]; exact .add
    have p5 : Pre m4 m5 := by rw [hm5]; exact .add
    have p6 : Pre m5 m6 := by rw [hm6]; exact .add
    have l3 : m3.length = m2.length + 1 := by rw [hm3]; simp
    have l4 : m4.length = m3.length + 1 := by rw [hm4]; simp
    have l5 : m5.length = m4.length + 1 := by rw [hm5]; simp
    have q3 : m3[m2.length]? = some (.lst []) := by rw [hm3]; exact new_get
    have q4 : m4[m3.length]? = some (.dic []) := by rw [hm4]; exact new_get
    have q5 : m5[m4.length]? = some (.lst (rs.flatten.map I)) := by rw [hm5]; exact new_get
    have q6 : m6[m5.length]? = some (.lst ((List.range N).map I)) := by rw [hm6]; exact new_get
    have p26 : Pre m2 m6 := ((p3.trans p4).trans p5).trans p6
    show Ok ((O.seq (sAsg (eCall mkLst aNil) (gN 5) (some (.tup (rs.map tI)) :: some (.ref m.length) :: y2 :: y3 :: y4 :: List.replicate 6 none) m2) _).f) _
    have s3 : sAsg (eCall mkLst aNil) (gN 5) (some (.tup (rs.map tI)) :: some (.ref m.length) :: y2 :: y3 :: y4 :: List.replicate 6 none) m2 = .nx [some (.tup (rs.map tI)), some (.ref m.length), y2, y3, y4, some (.ref m2.length), none, none, none, none, none] m3 := by
      rw [v_asg, v_call, v_nil, v_bind, mk0, v_o, v_gN, v_o, hm3]; rfl
    rw [s3, v_nx, v_seq, v_asg, hdic, v_o, v_gN, v_o, v_nx, v_seq, ← hm4]
    refine seq_f ?_
    rw [w_for, w_iE]
    have e4 : (eCall bSorted (aCons (eCall bList (aCons (eVar 1) aNil)) aNil) [some (.tup (rs.map tI)), some (.ref m.length), y2, y3, y4, some (.ref m2.length), some (.ref m3.length), none, none, none, none] m4).bind itD = .ok ((List.range N).map I, [(m5.length, .lst ((List.range N).map I))]) m6 := by
      have c1 : bList [.ref m.length] m4 = .ok (.ref m4.length) m5 := by
        have : m4[m.length]? = some (.dic (aK rs rs.flatten)) := p4 _ _ (p3 _ _ g2)
        unfold bList itemsD
        simp only [this]
        rw [keys_aK, hm5]
      have c2 : bSorted [.ref m4.length] m5 = .ok (.ref m5.length) m6 := by
        unfold bSorted itemsD
        simp only [q5, intsI]
        rw [sort_eq F.rN List.pairwise_lt_range, hm6]
      have c3 : itD (.ref m5.length) m6 = .ok ((List.range N).map I, [(m5.length, .lst ((List.range N).map I))]) m6 := v_itL q6
      rw [v_call, v_cons, v_call, v_cons, v_vs, v_v0 (z := none), v_bind, v_nil, v_bind, v_bind, c1, v_bind, v_nil, v_bind, v_bind, c2, v_bind, c3]
    show Nx (((eCall bSorted (aCons (eCall bList (aCons (eVar 1) aNil)) aNil) [some (.tup (rs.map tI)), some (.ref m.length), y2, y3, y4, some (.ref m2.length), some (.ref m3.length), none, none, none, none] m4).bind itD).o _ _) _
    rw [e4, v_o]
    refine nx_mono (w_outX (rs := rs) F hN (p26 _ _ g2) (p6 _ _ (p5 _ _ (p4 _ _ q3))) (p6 _ _ (p5 _ _ q4)) q6 (by omega) (by omega) (by omega) (by omega) (by omega)) ?_
    rintro e5 m7 ⟨⟨y7, y8, y9, y10, rfl⟩, k1, k2⟩
    refine ⟨m2.length, rfl, fun i c e => k1 i c (p26 _ _ (p2 _ _ e)) ?_, by omega, k2⟩
    have := lt e
    simp
    omega
end Cl
set_option Elab.async false
set_option linter.all false
set_option maxRecDepth 100000
namespace Ch
open Classical in
noncomputable def nxt (rs : List (List Nat)) (x : Nat) : Nat := if h : ∃ y, P rs x y then choose h else 0
theorem nxt_eq {rs : List (List Nat)} (hn : rs.flatten.Nodup) {x y : Nat} (h : P rs x y) : nxt rs x = y := by
  unfold nxt
  rw [dif_pos ⟨y, h⟩]
  exact P_fun hn (Classical.choose_spec (⟨y, h⟩ : ∃ y, P rs x y)) h
theorem P_prd {rs : List (List Nat)} (hn : rs.flatten.Nodup) {y : Nat} (h : y ∈ rs.flatten) : P rs (prd rs y) y := by
  obtain ⟨r, hr, hy⟩ := List.mem_flatten.mp h
  obtain ⟨i, hi, e⟩ := List.getElem_of_mem hy
  have hP : ∃ x, P rs x y := by
    cases i with
    | zero => exact ⟨_, r, hr, by have := cy_end (r := r) (by omega); rw [e] at this; exact this⟩
    | succ i => exact ⟨_, r, hr, by have := cy_idx (r := r) (i := i) hi; rw [e] at this; exact this⟩
  obtain ⟨x, hx⟩ := hP
  rw [prd_eq hn hx]; exact hx
theorem P_nxt {rs : List (List Nat)} (hn : rs.flatten.Nodup) {x : Nat} (h : x ∈ rs.flatten) : P rs x (nxt rs x) := by
  obtain ⟨y, hy⟩ := P_has h
  rw [nxt_eq hn hy]; exact hy
theorem P_in {rs : List (List Nat)} {x y : Nat} (h : P rs x y) : x ∈ rs.flatten ∧ y ∈ rs.flatten := by
  obtain ⟨r, hr, hc⟩ := h
  have := cy_mem hc
  exact ⟨List.mem_flatten.mpr ⟨r, hr, this.1⟩, List.mem_flatten.mpr ⟨r, hr, this.2⟩⟩
end Ch
namespace Cl
open PySem PySem.Spec PyProof.Rows L2 Ab
/-! # dicts, told by what they hold -/
theorem valD_put2 {kvs : List (Key × D)} {k k' : Key} {v : D} : valD (putD kvs k v) k' = if k' = k then some v else valD kvs k' := by
  unfold putD valD
  split
  · rename_i h
    rw [List.find?_map]
    have e1 : ((fun kv : Key × D => decide (kv.1 = k')) ∘ fun kv : Key × D => if kv.1 = k then (kv.1, v) else kv) = fun kv => decide (kv.1 = k') := by
      funext kv
      simp only [Function.comp]
      split <;> rfl
    rw [e1]
    obtain ⟨x, hx, hx2⟩ := List.any_eq_true.mp h
    cases hf : kvs.find? (fun kv => decide (kv.1 = k')) with
    | none =>
      have hne : ¬ k' = k := fun z => by
        have := List.find?_eq_none.mp hf x hx
        rw [z] at this
        exact this hx2
      rw [if_neg hne]; rfl
    | some y =>
      have hy : y.1 = k' := by simpa using List.find?_some hf
      by_cases z : k' = k
      · rw [if_pos z]
        simp [hy, z]
      · rw [if_neg z]
        have : ¬ y.1 = k := by rw [hy]; exact z
        simp [this]
  · rename_i h
    rw [List.find?_append]
    by_cases z : k' = k
    · subst z
      have hn : kvs.find? (fun kv => decide (kv.1 = k')) = none := by
        rw [List.find?_eq_none]
        intro x hx hx2
        exact h (List.any_eq_true.mpr ⟨x, hx, hx2⟩)
      rw [hn, if_pos rfl]; simp
    · rw [if_neg z]
      have : ¬ k = k' := fun q => z q.symm
      cases kvs.find? (fun kv => decide (kv.1 = k')) <;> simp [this]
def kI (n : Nat) : Key := .inl (n : Int)
theorem kI_inj {a b : Nat} (h : kI a = kI b) : a = b := by have := Sum.inl.inj h; omega
/-- items put one by one -/
def putAll {α : Type} (key : α → Nat) (val : α → D) (kvs : List (Key × D)) (ys : List α) : List (Key × D) := ys.foldl (fun kvs y => putD kvs (kI (key y)) (val y)) kvs
theorem putAll_len {α : Type} (key : α → Nat) (val : α → D) : ∀ (ys : List α) (kvs : List (Key × D)), (putAll key val kvs ys).length ≤ kvs.length + ys.length
  | [], kvs => Nat.le_refl _
  | y :: ys, kvs => by
    have h1 := putAll_len key val ys (putD kvs (kI (key y)) (val y))
    have h2 := putD_len kvs (kI (key y)) (val y)
    show (putAll key val (putD kvs (kI (key y)) (val y)) ys).length ≤ _
    simp; omega
theorem putAll_old {α : Type} (key : α → Nat) (val : α → D) {k : Nat} : ∀ (ys : List α) (kvs : List (Key × D)), (∀ y ∈ ys, key y ≠ k) → valD (putAll key val kvs ys) (kI k) = valD kvs (kI k)
  | [], kvs, _ => rfl
  | y :: ys, kvs, h => by
    show valD (putAll key val (putD kvs (kI (key y)) (val y)) ys) (kI k) = _
    rw [putAll_old key val ys _ (fun z hz => h z (List.mem_cons_of_mem _ hz)), valD_put2, if_neg (fun z => h y List.mem_cons_self (kI_inj z).symm)]
theorem putAll_get {α : Type} (key : α → Nat) (val : α → D) : ∀ (ys : List α) (kvs : List (Key × D)) (y : α), (ys.map key).Nodup → y ∈ ys → valD (putAll key val kvs ys) (kI (key y)) = some (val y)
  | z :: ys, kvs, y, hn, h => by
    show valD (putAll key val (putD kvs (kI (key z)) (val z)) ys) (kI (key y)) = _
    rw [List.map_cons, List.nodup_cons] at hn
    rcases List.mem_cons.mp h with e | e
    · subst e
      rw [putAll_old key val ys _ (fun w hw q => hn.1 (List.mem_map.mpr ⟨w, hw, q⟩)), valD_put2, if_pos rfl]
    · exact putAll_get key val ys _ y hn.2 e
/-! ### what lies behind each end -/
noncomputable def wAf : AS := sAsg (eVar 4) (gS dSet (eVar 1) (eOp dIx (eVar 2) (eOp dSub (eVar 3) (eC (.int 1)))))
noncomputable def wAfs : AS := sFor (iA enm (aCons (eVar 2) (aNil))) (gT 2 (gsCons (gN 3) (gsCons (gN 4) (gsNil)))) wAf
theorem w_af1 {rs : List (List Nat)} (hn : rs.flatten.Nodup) {r : List Nat} (hr : r ∈ rs) {kn : Nat} {C : D} : ∀ (b a : List Nat) (kvs : List (Key × D)) (m : Mem) (x3 x4 : Option D), r = a ++ b → kvs.length + b.length < 60000 → m[kn]? = some (.dic kvs) →
    ∃ y3 y4, forL (gT 2 (gsCons (gN 3) (gsCons (gN 4) (gsNil)))) wAf [] (enk a.length (b.map I)) [some C, some (.ref kn), some (tI r), x3, x4] m = .nx [some C, some (.ref kn), some (tI r), y3, y4] (m.set kn (.dic (putAll (Ch.prd rs) I kvs b)))
  | [], a, kvs, m, x3, x4, _, _, h => ⟨x3, x4, by rw [List.map_nil, show enk a.length [] = [] from rfl, forL_nil gd_nil, show putAll (Ch.prd rs) I kvs [] = kvs from rfl, set_same h]⟩
  | y :: b, a, kvs, m, x3, x4, e, hl, h => by
    have hi : a.length < r.length := by rw [e]; simp
    have hy : r[a.length] = y := by simp [e]
    have hx : ∀ m, dIx (tI r) (.int ((a.length : Int) - 1)) m = .ok (I (Ch.prd rs y)) m := fun m => v_ixT (by rw [atI_prev hn hr hi, hy])
    have hpl := putD_len kvs (kI (Ch.prd rs y)) (I y)
    obtain ⟨y3, y4, ih⟩ := w_af1 hn hr (kn := kn) (C := C) b (a ++ [y]) (putD kvs (kI (Ch.prd rs y)) (I y)) (m.set kn (.dic (putD kvs (kI (Ch.prd rs y)) (I y)))) (some (I a.length)) (some (I y)) (by simp [e]) (by simp at hl; omega) (get_set h)
    refine ⟨y3, y4, ?_⟩
    have hs : dSet (.ref kn) (I (Ch.prd rs y)) (I y) m = .ok () (m.set kn (.dic (putD kvs (kI (Ch.prd rs y)) (I y)))) := v_setD h (by simp at hl; omega)
    have hb : wAf [some C, some (.ref kn), some (tI r), some (I a.length), some (I y)] m = .nx [some C, some (.ref kn), some (tI r), some (I a.length), some (I y)] (m.set kn (.dic (putD kvs (kI (Ch.prd rs y)) (I y)))) :=
      s_set rfl rfl (e_op rfl (e_op rfl rfl (show dSub (I a.length) (.int 1) m = .ok (.int ((a.length : Int) - 1)) m from rfl)) (hx m)) hs
    rw [List.map_cons, enk_cons, forL_nx (e2 := [some C, some (.ref kn), some (tI r), some (I a.length), some (I y)]) gd_nil rfl hb]
    rw [show a.length + 1 = (a ++ [y]).length by simp, ih, List.set_set]
    rfl
theorem w_af2 {rs : List (List Nat)} (hn : rs.flatten.Nodup) {kn : Nat} {C : D} : ∀ (q : List (List Nat)) (kvs : List (Key × D)) (m : Mem) (x2 x3 x4 : Option D), (∀ r ∈ q, r ∈ rs) → kvs.length + q.flatten.length < 60000 → m[kn]? = some (.dic kvs) →
    ∃ y2 y3 y4, forL (gN 2) wAfs [] (q.map tI) [some C, some (.ref kn), x2, x3, x4] m = .nx [some C, some (.ref kn), y2, y3, y4] (m.set kn (.dic (putAll (Ch.prd rs) I kvs q.flatten)))
  | [], kvs, m, x2, x3, x4, _, _, h => ⟨x2, x3, x4, by rw [List.map_nil, forL_nil gd_nil, show putAll (Ch.prd rs) I kvs (List.flatten []) = kvs from rfl, set_same h]⟩
  | r :: q, kvs, m, x2, x3, x4, hq, hl, h => by
    have hpl := putAll_len (Ch.prd rs) I r kvs
    rw [List.flatten_cons, List.length_append] at hl
    obtain ⟨z3, z4, h1⟩ := w_af1 hn (hq r List.mem_cons_self) (kn := kn) (C := C) r [] kvs m x3 x4 rfl (by omega) h
    obtain ⟨y2, y3, y4, ih⟩ := w_af2 hn (kn := kn) (C := C) q (putAll (Ch.prd rs) I kvs r) (m.set kn (.dic (putAll (Ch.prd rs) I kvs r))) (some (tI r)) z3 z4 (fun r' h' => hq r' (List.mem_cons_of_mem _ h')) (by omega) (get_set h)
    refine ⟨y2, y3, y4, ?_⟩
    have hb : wAfs [some C, some (.ref kn), some (tI r), x3, x4] m = .nx [some C, some (.ref kn), some (tI r), z3, z4] (m.set kn (.dic (putAll (Ch.prd rs) I kvs r))) := by
      unfold wAfs
      rw [w_for, w_iA, v_cons, v_vs, v_vs, v_v0 (z := none), v_bind, v_nil, v_bind, v_bind]
      show forL _ wAf [] (enumD (r.map I)) _ m = _
      rw [enumD_enk]
      exact h1
    rw [List.map_cons, forL_nx (e2 := [some C, some (.ref kn), some (tI r), x3, x4]) gd_nil rfl hb, ih, List.set_set]
    unfold putAll
    rw [List.flatten_cons, List.foldl_append]
theorem prd_nodup {rs : List (List Nat)} (hn : rs.flatten.Nodup) : (rs.flatten.map (Ch.prd rs)).Nodup := by
  rw [List.nodup_iff_pairwise_ne] at hn ⊢
  rw [List.pairwise_map]
  have hn' := hn
  refine List.Pairwise.imp_of_mem ?_ hn
  intro a b ha hb hab z
  have hnd : rs.flatten.Nodup := hn'
  have h1 := Ch.P_prd hnd ha
  have h2 := Ch.P_prd hnd hb
  rw [z] at h1
  exact hab (Ch.P_fun hnd h1 h2)
/-- a dict that tells the next end -/
def AfterD (rs : List (List Nat)) (kvs : List (Key × D)) : Prop := ∀ x ∈ rs.flatten, valD kvs (kI x) = some (I (Ch.nxt rs x))
theorem w_after {m : Mem} {N : Nat} {rs rims : List (List Nat)} (F : Ch.Flat rs rims N) (hN : N ≤ 200) :
    Ok (f_law_after [.tup (rs.map tI)] m) fun d m' => ∃ k kvs, d = .ref k ∧ Pre m m' ∧ m'[k]? = some (.dic kvs) ∧ AfterD rs kvs := by
  have hlf : rs.flatten.length = N := by have := F.rN.length_eq; rw [List.length_range] at this; exact this
  obtain ⟨m1, hm1⟩ : ∃ m1, m1 = m ++ [Cell.dic []] := ⟨_, rfl⟩
  have p1 : Pre m m1 := by rw [hm1]; exact .add
  have g1 : m1[m.length]? = some (.dic []) := by rw [hm1]; exact new_get
  obtain ⟨y2, y3, y4, h1⟩ := w_af2 (rs := rs) F.nd (kn := m.length) (C := .tup (rs.map tI)) rs [] m1 none none none (fun _ h => h) (by simp [hlf]; omega) g1
  have hdic : eCall (fun _ => mkDic []) aNil [some (.tup (rs.map tI)), none, none, none, none] m = .ok (.ref m.length) m1 := by rw [hm1]; rfl
  have hit : iE (eVar 0) [some (.tup (rs.map tI)), some (.ref m.length), none, none, none] m1 = .ok (rs.map tI, []) m1 := rfl
  unfold f_law_after afOf a_law_after
  show Ok ((sSeq (sAsg _ (gN 1)) _ [some (.tup (rs.map tI)), none, none, none, none] m).f) _
  rw [v_seq, s_asg hdic, v_nx, v_seq]
  show Ok ((O.seq (sFor (iE (eVar 0)) (gN 2) wAfs [some (.tup (rs.map tI)), some (.ref m.length), none, none, none] m1) _).f) _
  rw [w_for, hit, v_o, h1, v_nx, s_ret rfl, v_frt]
  refine ⟨m.length, _, rfl, fun i cc e => ?_, get_set g1, fun x hx => ?_⟩
  · have := (List.getElem?_eq_some_iff.mp e).1
    rw [List.getElem?_set_ne (by omega)]
    exact p1 _ _ e
  · have hP := Ch.P_nxt F.nd hx
    have := putAll_get (Ch.prd rs) I rs.flatten [] (Ch.nxt rs x) (prd_nodup F.nd) (Ch.P_in hP).2
    rw [Ch.prd_eq F.nd hP] at this
    exact this
end Cl
set_option Elab.async false
set_option linter.all false
set_option maxRecDepth 100000
namespace Cl
open PySem PySem.Spec PyProof.Rows L2 Ab
/-! ### the numbers of the rims, as a dict -/
noncomputable def wLn : AS := sAsg (eVar 2) (gS dSet (eVar 1) (eVar 4))
noncomputable def wLns : AS := sFor (iE (eVar 3)) (gN 4) wLn
theorem w_ln1 {kn j : Nat} {C R3 : D} : ∀ (f : List Nat) (kvs : List (Key × D)) (m : Mem) (x4 : Option D), kvs.length + f.length < 60000 → m[kn]? = some (.dic kvs) →
    ∃ y4, forL (gN 4) wLn [] (f.map I) [some C, some (.ref kn), some (I j), some R3, x4] m = .nx [some C, some (.ref kn), some (I j), some R3, y4] (m.set kn (.dic (putAll (fun e => e) (fun _ => I j) kvs f)))
  | [], kvs, m, x4, _, h => ⟨x4, by rw [List.map_nil, forL_nil gd_nil, show putAll (fun e => e) (fun _ => I j) kvs [] = kvs from rfl, set_same h]⟩
  | x :: f, kvs, m, x4, hl, h => by
    have hpl := putD_len kvs (kI x) (I j)
    obtain ⟨y4, ih⟩ := w_ln1 (kn := kn) (j := j) (C := C) (R3 := R3) f (putD kvs (kI x) (I j)) (m.set kn (.dic (putD kvs (kI x) (I j)))) (some (I x)) (by simp at hl; omega) (get_set h)
    refine ⟨y4, ?_⟩
    have hs : dSet (.ref kn) (I x) (I j) m = .ok () (m.set kn (.dic (putD kvs (kI x) (I j)))) := v_setD h (by simp at hl; omega)
    have hb : wLn [some C, some (.ref kn), some (I j), some R3, some (I x)] m = .nx [some C, some (.ref kn), some (I j), some R3, some (I x)] (m.set kn (.dic (putD kvs (kI x) (I j)))) := s_set rfl rfl rfl hs
    rw [List.map_cons, forL_nx (e2 := [some C, some (.ref kn), some (I j), some R3, some (I x)]) gd_nil rfl hb, ih, List.set_set]
    rfl
def lnF : Nat → List (List Nat) → List (Key × D) → List (Key × D)
  | _, [], kvs => kvs
  | k, f :: fs, kvs => lnF (k + 1) fs (putAll (fun e => e) (fun _ => I k) kvs f)
theorem w_ln2 {kn : Nat} {C : D} {gd : Gd} (hgd : ∀ p ∈ gd, p.1 ≠ kn) : ∀ (fs : List (List Nat)) (k : Nat) (kvs : List (Key × D)) (m : Mem) (x2 x3 x4 : Option D), gd.Ok m → kvs.length + fs.flatten.length < 60000 → m[kn]? = some (.dic kvs) →
    ∃ y2 y3 y4, forL (gT 2 (gsCons (gN 2) (gsCons (gN 3) (gsNil)))) wLns gd (enk k (fs.map tI)) [some C, some (.ref kn), x2, x3, x4] m = .nx [some C, some (.ref kn), y2, y3, y4] (m.set kn (.dic (lnF k fs kvs)))
  | [], k, kvs, m, x2, x3, x4, hg, _, h => ⟨x2, x3, x4, by rw [List.map_nil, show enk k [] = [] from rfl, forL_nil hg, show lnF k [] kvs = kvs from rfl, set_same h]⟩
  | f :: fs, k, kvs, m, x2, x3, x4, hg, hl, h => by
    have hpl := putAll_len (fun e => e) (fun _ => I k) f kvs
    rw [List.flatten_cons, List.length_append] at hl
    obtain ⟨z4, h1⟩ := w_ln1 (C := C) (R3 := tI f) (j := k) f kvs m x4 (by omega) h
    obtain ⟨y2, y3, y4, ih⟩ := w_ln2 hgd (C := C) fs (k + 1) (putAll (fun e => e) (fun _ => I k) kvs f) (m.set kn (.dic (putAll (fun e => e) (fun _ => I k) kvs f))) (some (I k)) (some (tI f)) z4
      (fun p hp => by rw [List.getElem?_set_ne (Ne.symm (hgd p hp))]; exact hg p hp) (by omega) (get_set h)
    refine ⟨y2, y3, y4, ?_⟩
    have hb : wLns [some C, some (.ref kn), some (I k), some (tI f), x4] m = .nx [some C, some (.ref kn), some (I k), some (tI f), z4] (m.set kn (.dic (putAll (fun e => e) (fun _ => I k) kvs f))) := by
      unfold wLns
      rw [w_for, w_iE, v_vs, v_vs, v_vs, v_v0 (z := none), v_bind]
      show forL (gN 4) wLn [] (f.map I) _ m = _
      exact h1
    rw [List.map_cons, enk_cons, forL_nx (e2 := [some C, some (.ref kn), some (I k), some (tI f), x4]) hg rfl hb, ih, List.set_set]
    rfl
theorem lnF_get : ∀ (fs : List (List Nat)) (k : Nat) (kvs : List (Key × D)) (e : Nat), fs.flatten.Nodup → valD (lnF k fs kvs) (kI e) = if e ∈ fs.flatten then some (I (k + numOf fs e)) else valD kvs (kI e)
  | [], k, kvs, e, _ => by simp [lnF]
  | f :: fs, k, kvs, e, hn => by
    show valD (lnF (k + 1) fs (putAll (fun e => e) (fun _ => I k) kvs f)) (kI e) = _
    rw [List.flatten_cons, List.nodup_append] at hn
    rw [lnF_get fs (k + 1) _ e hn.2.1]
    unfold numOf
    rw [List.findIdx_cons]
    by_cases h1 : e ∈ f
    · have h2 : ¬ e ∈ fs.flatten := fun z => hn.2.2 e h1 e z rfl
      rw [if_neg h2, if_pos (by rw [List.flatten_cons]; exact List.mem_append_left _ h1)]
      have := putAll_get (fun e => e) (fun _ => I k) f kvs e (by simpa using hn.1) h1
      simp [h1]
      exact this
    · by_cases h2 : e ∈ fs.flatten
      · rw [if_pos h2, if_pos (by rw [List.flatten_cons]; exact List.mem_append_right _ h2)]
        simp [h1]
        congr 1; omega
      · rw [if_neg h2, if_neg (by rw [List.flatten_cons, List.mem_append]; simp [h1]; simpa using h2)]
        exact putAll_old (fun e => e) (fun _ => I k) f kvs (fun y hy z => h1 (z ▸ hy))
def NumsD (fs : List (List Nat)) (kvs : List (Key × D)) : Prop := ∀ e ∈ fs.flatten, valD kvs (kI e) = some (I (numOf fs e))
theorem rimsX_perm {rs rims : List (List Nat)} {N : Nat} (F : Ch.Flat rs rims N) (hN : N ≤ 200) : AllRims rims (rimsX rims (List.range N)) N := by
  obtain ⟨_, m4, e4, k, fs, rfl, p4, _, q4, A4⟩ := ok_ex (w_rims_between (m := []) F hN)
  have := A4.eq
  rw [← this]; exact A4
theorem w_rnums {m : Mem} {N : Nat} {rs rims : List (List Nat)} (F : Ch.Flat rs rims N) (hN : N ≤ 200) :
    Ok (f_law_rim_numbers [.tup (rs.map tI)] m) fun d m' => ∃ k kvs, d = .ref k ∧ Pre m m' ∧ m'[k]? = some (.dic kvs) ∧ NumsD (rimsX rims (List.range N)) kvs := by
  obtain ⟨m1, hm1⟩ : ∃ m1, m1 = m ++ [Cell.dic []] := ⟨_, rfl⟩
  have p1 : Pre m m1 := by rw [hm1]; exact .add
  have g1 : m1[m.length]? = some (.dic []) := by rw [hm1]; exact new_get
  obtain ⟨_, m2, e2, k, rfl, p2, l2, q2⟩ := ok_ex (w_lrims (m := m1) F hN)
  have A := rimsX_perm F hN
  obtain ⟨fs, hfs⟩ : ∃ fs, fs = rimsX rims (List.range N) := ⟨_, rfl⟩
  rw [← hfs] at q2 A ⊢
  have hl1 : m1.length = m.length + 1 := by rw [hm1]; simp
  have hfl : fs.flatten.length = N := by rw [A.perm.length_eq]; simp
  obtain ⟨y2, y3, y4, h1⟩ := w_ln2 (kn := m.length) (C := .tup (rs.map tI)) (gd := [(k, Cell.lst (fs.map tI))]) (fun p hp => by rw [List.mem_singleton.mp hp]; show k ≠ m.length; omega) fs 0 [] m2 none none none (gd_one q2) (by simp [hfl]; omega) (p2 _ _ g1)
  have hdic : eCall (fun _ => mkDic []) aNil [some (.tup (rs.map tI)), none, none, none, none] m = .ok (.ref m.length) m1 := by rw [hm1]; rfl
  have hit : iA enm (aCons (eCall f_law_rims (aCons (eVar 0) (aNil))) (aNil)) [some (.tup (rs.map tI)), some (.ref m.length), none, none, none] m1 = .ok (enk 0 (fs.map tI), [(k, Cell.lst (fs.map tI))]) m2 := by
    rw [w_iA, a_c (e_call (a_c rfl rfl) e2) rfl, v_bind]
    unfold enm
    dsimp only
    rw [v_itL q2, v_bind, enumD_enk]
  unfold f_law_rim_numbers afOf a_law_rim_numbers
  show Ok ((sSeq (sAsg _ (gN 1)) _ [some (.tup (rs.map tI)), none, none, none, none] m).f) _
  rw [v_seq, s_asg hdic, v_nx, v_seq]
  show Ok ((O.seq (sFor _ _ wLns [some (.tup (rs.map tI)), some (.ref m.length), none, none, none] m1) _).f) _
  rw [w_for, hit, v_o, h1, v_nx, s_ret rfl, v_frt]
  refine ⟨m.length, _, rfl, fun i cc e => ?_, get_set (p2 _ _ g1), fun e he => ?_⟩
  · have := (List.getElem?_eq_some_iff.mp e).1
    rw [List.getElem?_set_ne (by omega)]
    exact p2 _ _ (p1 _ _ e)
  · rw [lnF_get fs 0 [] e (A.perm.nodup_iff.mpr List.nodup_range), if_pos he]
    simp
theorem v_getD2 {n : Nat} {m : Mem} {kvs : List (Key × D)} {e : Nat} {v : D} (h : m[n]? = some (.dic kvs)) (hv : valD kvs (kI e) = some v) : dIx (.ref n) (I e) m = .ok v m := v_getD h hv
/-! ### the law's word for an angle -/
theorem w_lword {m : Mem} {ka e y : Nat} {kvs : List (Key × D)} (h : m[ka]? = some (.dic kvs)) (hy : valD kvs (kI e) = some (I y)) : ∃ m', f_law_word [.ref ka, I e] m = .ok (.str (wordX e y)) m' ∧ Pre m m' := by
  have hst : f_law_is_straight [.ref ka, I e] m = .ok (.bl (!decide (e % 2 = y % 2))) m := by
    unfold f_law_is_straight afOf a_law_is_straight
    show ((sRet _ [some (.ref ka), some (I e)] m).f) = _
    rw [s_ret (e_op (e_op (e_call (a_c rfl rfl) rfl) rfl (v_mod2 _ _)) (e_op (e_call (a_c (e_op rfl rfl (v_getD2 h hy)) rfl) rfl) rfl (v_mod2 _ _)) (w_neII _ _ _)), v_frt]
  obtain ⟨m1, hm1⟩ : ∃ m1 : Mem, m1 = m ++ [Cell.lst [.str "fork", .str "meet"]] := ⟨_, rfl⟩
  have p1 : Pre m m1 := by rw [hm1]; exact .add
  have q1 : m1[m.length]? = some (.lst [.str "fork", .str "meet"]) := by rw [hm1]; exact new_get
  unfold f_law_word afOf a_law_word
  have t1 : tVal (eCall f_law_is_straight (aCons (eVar 0) (aCons (eVar 1) (aNil)))) [some (.ref ka), some (I e)] m = .ok (!decide (e % 2 = y % 2)) m := t_v (e_call (a_c rfl (a_c rfl rfl)) hst)
  by_cases z : e % 2 = y % 2
  · refine ⟨m1, ?_, p1⟩
    rw [decide_eq_true z] at t1
    show ((sSeq _ _ [some (.ref ka), some (I e)] m).f) = _
    rw [v_seq, v_sifF t1, v_skip, v_nx]
    have hx : wordX e y = if e % 2 = 0 then ("fork" : Str) else ("meet" : Str) := by unfold wordX; rw [if_neg (fun q => q z)]
    rw [s_ret (x := .str (wordX e y)) (e_op (e_call (a_c rfl (a_c rfl rfl)) (by rw [mkL2, hm1])) (e_op (e_call (a_c rfl rfl) rfl) rfl (v_mod2 _ _)) (v_ixL q1 (atI_nat ?_))), v_frt]
    rw [hx]
    rcases Nat.mod_two_eq_zero_or_one e with q | q
    · rw [q]; rfl
    · rw [q]; rfl
  · refine ⟨m, ?_, .refl⟩
    rw [decide_eq_false z] at t1
    show ((sSeq _ _ [some (.ref ka), some (I e)] m).f) = _
    rw [v_seq, v_sifT t1, s_ret rfl, v_rt, v_frt]
    unfold wordX
    rw [if_pos z]
end Cl
set_option Elab.async false
set_option linter.all false
set_option maxRecDepth 100000
namespace Cl
open PySem PySem.Spec PyProof.Rows L2 Ab
/-! # the law's own comparison -/
noncomputable def isW (r : AF) : AS :=
  sSeq (sIf (tVal (eIsi2 "tuple" "list" (eVar 1)))
    (sSeq (sIf (tOrr (tVal (eOp dNe (eIsi "tuple" (eVar 0)) (eIsi "tuple" (eVar 1)))) (tNt (tVal (eIsi2 "tuple" "list" (eVar 0)))))
    (sRet (eC (.bl false)))
    (sSkip))
    (sRet (eAnd (eOp dEq (eCall bLen (aCons (eVar 0) (aNil))) (eCall bLen (aCons (eVar 1) (aNil)))) (eCall (bAll true) (aCons (eLc (iA zpp (aCons (eVar 0) (aCons (eVar 1) (aNil)))) (gT 2 (gsCons (gN 2) (gsCons (gN 3) (gsNil)))) (tYesA) (eCall r (aCons (eVar 2) (aCons (eVar 3) (aNil)))) [2, 3]) (aNil))))))
    (sSkip))
    (sRet (eAnd (eOp dEq (eIsi "bool" (eVar 0)) (eIsi "bool" (eVar 1))) (eOp dEq (eVar 0) (eVar 1))))
noncomputable def isF (r : AF) : AF := afOf 4 (isW r)
theorem is1 : f_law_is_1 = isF f_law_is_0 := rfl
theorem is2 : f_law_is_2 = isF f_law_is_1 := rfl
theorem is3 : f_law_is_3 = isF f_law_is_2 := rfl
theorem is4 : f_law_is_4 = isF f_law_is_3 := rfl
/-- alike by r, now and as long as the memory only grows -/
def Al (r : AF) (x y : D) (m : Mem) : Prop := ∀ m', Pre m m' → Ok (r [x, y] m') fun d m'' => d = .bl true ∧ Pre m' m''
theorem Al.pre {r : AF} {x y : D} {m m1 : Mem} (h : Al r x y m) (p : Pre m m1) : Al r x y m1 := fun m' q => h m' (p.trans q)
theorem v_isi2 {T1 T2 t : String} {a : AE} {e : Env'} {m m1 : Mem} {d : D} {b1 b2 : Bool} (h : a e m = .ok d m1) (ht : tyN d m1 = some t) (h1 : kitB t T1 = some b1) (h2 : kitB t T2 = some b2) : eIsi2 T1 T2 a e m = .ok (.bl (b1 || b2)) m1 := by
  unfold eIsi2
  rw [h, v_bind, ht]
  dsimp only
  rw [h1, h2]
theorem e_isi {T t : String} {a : AE} {e : Env'} {m m1 : Mem} {d : D} {b : Bool} (h : a e m = .ok d m1) (ht : tyN d m1 = some t) (h1 : kitB t T = some b) : eIsi T a e m = .ok (.bl b) m1 := by
  rw [v_isi, h, v_bind, ht]
  dsimp only
  rw [h1]
theorem w_eqB {m : Mem} {a b : Bool} : dEq (.bl a) (.bl b) m = .ok (.bl (decide (a = b))) m := by
  unfold dEq
  rw [show toP m DEEP (.bl a) = some (.bool a) from rfl, show toP m DEEP (.bl b) = some (.bool b) from rfl]
  dsimp only
  have hs : ∀ a : Bool, SeqAt.shaped (.bool a) = true := fun a => by simp [SeqAt.shaped, PyData.canLay0, PyData.depth]
  have he : PyData.eqv (.bool a) (.bool b) = decide (a = b) := by cases a <;> cases b <;> simp [PyData.eqv]
  rw [if_pos ⟨hs a, hs b⟩, he]
theorem kb_it : kitB "int" "tuple" = some false := by decide +kernel
theorem kb_il : kitB "int" "list" = some false := by decide +kernel
theorem kb_st : kitB "str" "tuple" = some false := by decide +kernel
theorem kb_sl : kitB "str" "list" = some false := by decide +kernel
theorem kb_sb : kitB "str" "bool" = some false := by decide +kernel
theorem kb_nt : kitB "NoneType" "tuple" = some false := by decide +kernel
theorem kb_nl : kitB "NoneType" "list" = some false := by decide +kernel
theorem kb_nb : kitB "NoneType" "bool" = some false := by decide +kernel
theorem kb_tl : kitB "tuple" "list" = some false := by decide +kernel
theorem kb_lt : kitB "list" "tuple" = some false := by decide +kernel
theorem kb_ll : kitB "list" "list" = some true := by decide +kernel
theorem e_and {a b : AE} {e : Env'} {m m1 : Mem} {r : R D} (h1 : a e m = .ok (.bl true) m1) (h2 : b e m1 = r) : eAnd a b e m = r := by rw [v_eand, h1, v_bind, v_asB, v_bind, if_pos rfl, h2]
theorem al_leaf {r : AF} {x : D} {m : Mem} {t : String} (ht : ∀ m', tyN x m' = some t) (h1 : kitB t "tuple" = some false) (h2 : kitB t "list" = some false) (h3 : kitB t "bool" = some false) (he : ∀ m', dEq x x m' = .ok (.bl true) m') : Al (isF r) x x m := by
  intro m' p
  unfold isF afOf isW
  show Ok ((sSeq _ _ [some x, some x, none, none] m').f) _
  rw [v_seq, v_sifF (t_v (v_isi2 rfl (ht _) h1 h2)), v_skip, v_nx, s_ret (e_and (e_op (e_isi rfl (ht _) h3) (e_isi rfl (ht _) h3) (by rw [w_eqB]; rfl)) (e_op rfl rfl (he _))), v_frt]
  exact ⟨rfl, .refl⟩
theorem al_int {r : AF} {i : Int} {m : Mem} : Al (isF r) (.int i) (.int i) m := al_leaf (fun _ => rfl) kb_it kb_il kb_ib (fun m' => by rw [w_eqI]; simp)
theorem al_I {r : AF} {i : Nat} {m : Mem} : Al (isF r) (I i) (I i) m := al_int
theorem canS1 (x : Str) (h : PyData.strOk x = true) : SeqAt.shaped (.str x) = true := by simp [SeqAt.shaped, PyData.canLay0, PyData.depth, h]
theorem v_eqStr {m : Mem} {x : Str} (h : PyData.strOk x = true) : dEq (.str x) (.str x) m = .ok (.bl true) m := by
  unfold dEq
  rw [show toP m DEEP (.str x) = some (.str x) from rfl]
  dsimp only
  rw [if_pos ⟨canS1 x h, canS1 x h⟩]
  simp [PyData.eqv]
theorem al_str {r : AF} {x : Str} {m : Mem} (h : PyData.strOk x = true) : Al (isF r) (.str x) (.str x) m := al_leaf (fun _ => rfl) kb_st kb_sl kb_sb (fun m' => v_eqStr h)
theorem al_non {r : AF} {m : Mem} : Al (isF r) .non .non m := al_leaf (fun _ => rfl) kb_nt kb_nl kb_nb (fun m' => by
  unfold dEq
  rw [show toP m' DEEP .non = some .none from rfl]
  dsimp only
  have hs : SeqAt.shaped .none = true := by simp [SeqAt.shaped, PyData.canLay0, PyData.depth]
  rw [if_pos ⟨hs, hs⟩]
  simp [PyData.eqv])
/-! ### all items alike -/
theorem zip_get {xs ys : List D} {d : D} {r : List D} (h : zipD xs ys = d :: r) : ∃ x y xs' ys', xs = x :: xs' ∧ ys = y :: ys' ∧ d = .tup [x, y] ∧ r = zipD xs' ys' := by
  cases xs with
  | nil => simp [zipD] at h
  | cons x xs =>
    cases ys with
    | nil => simp [zipD] at h
    | cons y ys =>
      unfold zipD at h
      rw [List.zip_cons_cons, List.map_cons] at h
      cases h
      exact ⟨x, y, xs, ys, rfl, rfl, rfl, rfl⟩
theorem w_zips {r : AF} {e : Env'} {m0 : Mem} {gd : Gd} (hg : gd.Ok m0) (he2 : 3 < e.length) : ∀ (xs ys : List D) (m : Mem) (j : Nat), Kp [m0.length] m0 m → m[m0.length]? = some (.lst (List.replicate j (.bl true))) → xs.length = ys.length → j + xs.length < 60000 → (∀ (i : Nat) (x y : D), xs[i]? = some x → ys[i]? = some y → ∀ m', Pre m0 m' → Ok (r [x, y] m') fun d m'' => d = .bl true ∧ Pre m' m'') →
    ∃ m', lcL (gT 2 (gsCons (gN 2) (gsCons (gN 3) (gsNil)))) tYesA (eCall r (aCons (eVar 2) (aCons (eVar 3) (aNil)))) gd (wipeE e [2, 3]) m0.length (zipD xs ys) m = .ok () m' ∧ Kp [m0.length] m0 m' ∧ m'[m0.length]? = some (.lst (List.replicate (j + xs.length) (.bl true))) := by
  have hgd : ∀ m, Kp [m0.length] m0 m → gd.Ok m := fun m hk p hp => hk _ _ (hg p hp) (by
    have := (List.getElem?_eq_some_iff.mp (hg p hp)).1
    simp; omega)
  have hpre : ∀ m, Kp [m0.length] m0 m → Pre m0 m := fun m hk i c e => hk i c e (by
    have := (List.getElem?_eq_some_iff.mp e).1
    simp; omega)
  intro xs
  induction xs with
  | nil =>
    intro ys m j hk hm _ _ _
    have : zipD [] ys = [] := by simp [zipD]
    rw [this]
    refine ⟨m, ?_, hk, by simpa using hm⟩
    unfold lcL
    rw [if_pos (hgd m hk)]
  | cons x xs ih =>
    intro ys m j hk hm hl hj hA
    cases ys with
    | nil => simp at hl
    | cons y ys =>
      have hz : zipD (x :: xs) (y :: ys) = .tup [x, y] :: zipD xs ys := rfl
      rw [hz]
      obtain ⟨_, m2, e2, rfl, p2⟩ := ok_ex (hA 0 x y rfl rfl m (hpre m hk))
      have hm2 := p2 _ _ hm
      have hel : eCall r (aCons (eVar 2) (aCons (eVar 3) (aNil))) (((wipeE e [2, 3]).set 2 (some x)).set 3 (some y)) m = .ok (.bl true) m2 := by
        have hlen : (wipeE e [2, 3]).length = e.length := by show ((e.set 3 none).set 2 none).length = _; simp
        refine e_call (a_c (v_var ?_) (a_c (v_var ?_) rfl)) e2
        · rw [List.getElem?_set_ne (by decide), List.getElem?_set_self (by omega)]
        · rw [List.getElem?_set_self (by simp; omega)]
      obtain ⟨m', w1, w2, w3⟩ := ih ys (m2.set m0.length (.lst (List.replicate j (.bl true) ++ [.bl true]))) (j + 1) ((hk.trans (Kp.pre p2)).trans (Kp.set (by simp))) (by rw [get_set hm2]; congr 2; rw [List.replicate_succ']) (by simpa using hl) (by simp at hj; omega) (fun i x' y' a b => hA (i + 1) x' y' a b)
      refine ⟨m', ?_, w2, by rw [w3]; simp; omega⟩
      unfold lcL
      rw [if_pos (hgd m hk), show gT 2 (gsCons (gN 2) (gsCons (gN 3) (gsNil))) (.tup [x, y]) (wipeE e [2, 3]) m = .ok (((wipeE e [2, 3]).set 2 (some x)).set 3 (some y)) m from rfl]
      dsimp only [tYesA]
      rw [if_pos rfl, hel]
      dsimp only
      rw [hm2]
      dsimp only
      rw [if_pos (by show (List.replicate j (D.bl true)).length < 2 ^ 24; simp at hj ⊢; omega)]
      exact w1
/-- what is a row: its items, what stands for it -/
def Row (d : D) (m : Mem) (xs : List D) (t : String) : Prop := (d = .tup xs ∧ t = "tuple") ∨ ∃ n, d = .ref n ∧ m[n]? = some (.lst xs) ∧ t = "list"
theorem Row.pre {d : D} {m m1 : Mem} {xs : List D} {t : String} (h : Row d m xs t) (p : Pre m m1) : Row d m1 xs t := by
  rcases h with ⟨a, b⟩ | ⟨n, a, b, c⟩
  · exact .inl ⟨a, b⟩
  · exact .inr ⟨n, a, p _ _ b, c⟩
theorem Row.ty {d : D} {m : Mem} {xs : List D} {t : String} (h : Row d m xs t) : tyN d m = some t := by
  rcases h with ⟨rfl, rfl⟩ | ⟨n, rfl, b, rfl⟩
  · rfl
  · unfold tyN; dsimp only; rw [b]
theorem Row.len {d : D} {m : Mem} {xs : List D} {t : String} (h : Row d m xs t) : bLen [d] m = .ok (.int (xs.length : Int)) m := by
  rcases h with ⟨rfl, rfl⟩ | ⟨n, rfl, b, rfl⟩
  · rfl
  · exact v_lenL b
theorem Row.it {d : D} {m : Mem} {xs : List D} {t : String} (h : Row d m xs t) : ∃ gd : Gd, itD d m = .ok (xs, gd) m ∧ gd.Ok m := by
  rcases h with ⟨rfl, rfl⟩ | ⟨n, rfl, b, rfl⟩
  · exact ⟨[], rfl, gd_nil⟩
  · exact ⟨_, v_itL b, gd_one b⟩
theorem Row.isStr {d : D} {m : Mem} {xs : List D} {t : String} (h : Row d m xs t) {s : Str} : d ≠ .str s := by
  rcases h with ⟨rfl, rfl⟩ | ⟨n, rfl, b, rfl⟩ <;> intro z <;> cases z
theorem Row.kit {d : D} {m : Mem} {xs : List D} {t : String} (h : Row d m xs t) : ∃ b1 b2, kitB t "tuple" = some b1 ∧ kitB t "list" = some b2 ∧ (b1 || b2) = true := by
  rcases h with ⟨rfl, rfl⟩ | ⟨n, rfl, b, rfl⟩
  · exact ⟨true, false, kb_tt, kb_tl, rfl⟩
  · exact ⟨false, true, kb_lt, kb_ll, rfl⟩
theorem al_row {r : AF} {x y : D} {m : Mem} {xs ys : List D} {t : String} (hx : Row x m xs t) (hy : Row y m ys t) (hl : xs.length = ys.length) (hb : xs.length < 1000) (hA : ∀ (i : Nat) (a b : D), xs[i]? = some a → ys[i]? = some b → Al r a b m) : Al (isF r) x y m := by
  intro m' p
  have hx' := hx.pre p
  have hy' := hy.pre p
  obtain ⟨b1, b2, k1, k2, k3⟩ := hx'.kit
  obtain ⟨g1, i1, o1⟩ := hx'.it
  obtain ⟨g2, i2, o2⟩ := hy'.it
  obtain ⟨m1, hm1⟩ : ∃ m1 : Mem, m1 = m' ++ [Cell.lst []] := ⟨_, rfl⟩
  have p1 : Pre m' m1 := by rw [hm1]; exact .add
  have q1 : m1[m'.length]? = some (.lst []) := by rw [hm1]; exact new_get
  have hgd : Gd.Ok (g1 ++ g2) m' := fun q hq => by
    rcases List.mem_append.mp hq with z | z
    · exact o1 q z
    · exact o2 q z
  obtain ⟨m2, w1, w2, w3⟩ := w_zips (r := r) (e := [some x, some y, none, none]) hgd (by simp) xs ys m1 0 (Kp.pre p1) (by simpa using q1) hl (by omega) (fun i a b ha hb' m'' pm => hA i a b ha hb' m'' (p.trans pm))
  have hzp : iA zpp (aCons (eVar 0) (aCons (eVar 1) (aNil))) [some x, some y, none, none] m' = .ok (zipD xs ys, g1 ++ g2) m' := by
    rw [w_iA, a_c (x := x) (m1 := m') rfl (a_c (x := y) (m1 := m') rfl rfl), v_bind]
    rcases hx' with ⟨rfl, rfl⟩ | ⟨n, rfl, b, rfl⟩
    · rcases hy' with ⟨rfl, _⟩ | ⟨n2, rfl, b', z⟩
      · show ((itD (.tup xs) m').bind fun p m => (itD (.tup ys) m).bind fun q m => R.ok (zipD p.1 q.1, p.2 ++ q.2) m) = _
        rw [i1, v_bind, i2, v_bind]
      · exact absurd z (by decide)
    · rcases hy' with ⟨rfl, z⟩ | ⟨n2, rfl, b', z⟩
      · exact absurd z (by decide)
      · show ((itD (.ref n) m').bind fun p m => (itD (.ref n2) m).bind fun q m => R.ok (zipD p.1 q.1, p.2 ++ q.2) m) = _
        rw [i1, v_bind, i2, v_bind]
  have hlc : eLc (iA zpp (aCons (eVar 0) (aCons (eVar 1) (aNil)))) (gT 2 (gsCons (gN 2) (gsCons (gN 3) (gsNil)))) (tYesA) (eCall r (aCons (eVar 2) (aCons (eVar 3) (aNil)))) [2, 3] [some x, some y, none, none] m' = .ok (.ref m'.length) m2 := by
    unfold eLc
    rw [hzp, v_bind]
    dsimp only
    rw [← hm1, w1]
  have hp2 : Pre m' m2 := fun i c e => w2 i c e (by
    have := (List.getElem?_eq_some_iff.mp e).1
    simp; omega)
  unfold isF afOf isW
  show Ok ((sSeq _ _ [some x, some y, none, none] m').f) _
  have t1 : tVal (eIsi2 "tuple" "list" (eVar 1)) [some x, some y, none, none] m' = .ok true m' := by rw [t_v (v_isi2 rfl hy'.ty k1 k2), k3]
  have t2 : tOrr (tVal (eOp dNe (eIsi "tuple" (eVar 0)) (eIsi "tuple" (eVar 1)))) (tNt (tVal (eIsi2 "tuple" "list" (eVar 0)))) [some x, some y, none, none] m' = .ok false m' := by
    refine t_orF (t_v (e_op (e_isi rfl hx'.ty k1) (e_isi rfl hy'.ty k1) (show dNe (.bl b1) (.bl b1) m' = .ok (.bl false) m' by rw [w_neB]; simp))) ?_
    rw [t_nt (t_v (v_isi2 rfl hx'.ty k1 k2)), k3]; rfl
  rw [v_seq, v_sifT t1, v_seq, v_sifF t2, v_skip, v_nx]
  rw [s_ret (x := .bl true) (m1 := m2) (e_and (e_op (e_call (a_c rfl rfl) hx'.len) (e_call (a_c rfl rfl) hy'.len) (show dEq (.int (xs.length : Int)) (.int (ys.length : Int)) m' = .ok (.bl true) m' by rw [w_eqI, hl]; simp)) (e_call (a_c hlc rfl) (v_allT (by simpa using w3)))), v_rt, v_frt]
  exact ⟨rfl, hp2⟩
end Cl
set_option Elab.async false
set_option linter.all false
set_option maxRecDepth 100000
namespace Cl
open PySem PySem.Spec PyProof.Rows L2 Ab
/-! # comprehensions whose items are reckoned with more memory -/
theorem lcL_grow {α : Type} {tg : AG} {tt : AT} {el : AE} {gd : Gd} {env : Env'} {m0 : Mem} (gx : α → D) (p : α → Bool) (f : α → D) (hg : gd.Ok m0) :
    ∀ (xs : List α) (acc : List D) (m : Mem), (∀ x ∈ xs, ∀ m', Pre m0 m' → ∃ e2 m2, tg (gx x) env m' = .ok e2 m' ∧ tt e2 m' = .ok (p x) m2 ∧ Pre m' m2 ∧ (p x = true → ∃ m3, el e2 m2 = .ok (f x) m3 ∧ Pre m2 m3)) →
      Kp [m0.length] m0 m → m[m0.length]? = some (.lst acc) → acc.length + xs.length < 2 ^ 24 → ∃ m', lcL tg tt el gd env m0.length (xs.map gx) m = .ok () m' ∧ Kp [m0.length] m0 m' ∧ m'[m0.length]? = some (.lst (acc ++ (xs.filter p).map f)) := by
  have hgd : ∀ m, Kp [m0.length] m0 m → gd.Ok m := fun m hk p hp => hk _ _ (hg p hp) (by
    have := (List.getElem?_eq_some_iff.mp (hg p hp)).1
    simp; omega)
  have hpre : ∀ m, Kp [m0.length] m0 m → Pre m0 m := fun m hk i c e => hk i c e (by
    have := (List.getElem?_eq_some_iff.mp e).1
    simp; omega)
  intro xs
  induction xs with
  | nil =>
    intro acc m _ hk hm _
    refine ⟨m, ?_, hk, by simpa using hm⟩
    show lcL tg tt el gd env m0.length [] m = _
    unfold lcL
    rw [if_pos (hgd m hk)]
  | cons x xs ih =>
    intro acc m h hk hm hl
    obtain ⟨e2, m2, h1, h2, p2, h3⟩ := h x List.mem_cons_self m (hpre m hk)
    have ih := fun acc m => ih acc m fun y hy => h y (List.mem_cons_of_mem _ hy)
    show ∃ m', lcL tg tt el gd env m0.length (gx x :: xs.map gx) m = _ ∧ _
    have hun : lcL tg tt el gd env m0.length (gx x :: xs.map gx) m = (if p x = true then (match el e2 m2 with
        | .ok y m4 => match m4[m0.length]? with
          | some (.lst acc) => if acc.length < sizeLine then lcL tg tt el gd env m0.length (xs.map gx) (m4.set m0.length (.lst (acc ++ [y]))) else .no
          | _ => .no
        | _ => .no) else lcL tg tt el gd env m0.length (xs.map gx) m2) := by
      conv => lhs; unfold lcL
      rw [if_pos (hgd m hk), h1]
      dsimp only
      rw [h2]
      all_goals rfl
    cases hp : p x with
    | false =>
      rw [hp, if_neg Bool.false_ne_true] at hun
      obtain ⟨m', w1, w2, w3⟩ := ih acc m2 (hk.trans (Kp.pre p2)) (p2 _ _ hm) (by simp at hl; omega)
      exact ⟨m', hun.trans w1, w2, by rw [w3, List.filter_cons_of_neg (by simp [hp])]⟩
    | true =>
      obtain ⟨m3, h4, p3⟩ := h3 hp
      have hm3 := p3 _ _ (p2 _ _ hm)
      rw [hp, if_pos rfl, h4] at hun
      dsimp only at hun
      rw [hm3] at hun
      dsimp only at hun
      rw [if_pos (by show acc.length < 2 ^ 24; simp at hl; omega)] at hun
      obtain ⟨m', w1, w2, w3⟩ := ih (acc ++ [f x]) (m3.set m0.length (.lst (acc ++ [f x]))) (((hk.trans (Kp.pre p2)).trans (Kp.pre p3)).trans (Kp.set (by simp))) (get_set hm3) (by simp at hl ⊢; omega)
      exact ⟨m', hun.trans w1, w2, by rw [w3, List.filter_cons_of_pos hp]; simp⟩
theorem lc_grow {α : Type} {it : AI} {tg : AG} {tt : AT} {el : AE} {gd : Gd} {vs : List Nat} {e : Env'} {m m1 : Mem} {ds : List D} (gx : α → D) (xs : List α) (p : α → Bool) (f : α → D) (hit : it e m = .ok (ds, gd) m1) (hds : ds = xs.map gx) (hg : gd.Ok m1) (hl : xs.length < 2 ^ 24)
    (h : ∀ x ∈ xs, ∀ m', Pre m1 m' → ∃ e2 m2, tg (gx x) (wipeE e vs) m' = .ok e2 m' ∧ tt e2 m' = .ok (p x) m2 ∧ Pre m' m2 ∧ (p x = true → ∃ m3, el e2 m2 = .ok (f x) m3 ∧ Pre m2 m3)) :
    ∃ m', eLc it tg tt el vs e m = .ok (.ref m1.length) m' ∧ Pre m1 m' ∧ m'[m1.length]? = some (.lst ((xs.filter p).map f)) := by
  obtain ⟨m', w1, w2, w3⟩ := lcL_grow (m0 := m1) gx p f hg xs [] (m1 ++ [.lst []]) h (Kp.pre .add) new_get (by simpa using hl)
  refine ⟨m', ?_, fun i c e => w2 i c e (by
    have := (List.getElem?_eq_some_iff.mp e).1
    simp; omega), by simpa using w3⟩
  unfold eLc
  rw [hit, v_bind, hds]
  dsimp only
  rw [w1]
/-- items with their places -/
theorem enk_zip {α : Type} (g : α → D) : ∀ (l : List α) (k : Nat), enk k (l.map g) = (l.zipIdx k).map fun p => D.tup [I p.2, g p.1]
  | [], k => rfl
  | x :: l, k => by rw [List.map_cons, enk_cons, List.zipIdx_cons, List.map_cons, enk_zip g l (k + 1)]; rfl
/-- the places of those that .. -/
def idxs {α : Type} (P : α → Bool) (l : List α) : List Nat := (l.zipIdx.filter fun p => P p.1).map (·.2)
theorem eqvStr (x y : Str) : PyData.eqv (.str x) (.str y) = decide (x = y) := by
  by_cases h : x = y
  · subst h; simp [PyData.eqv]
  · simp [PyData.eqv, h]
theorem v_eqS {m : Mem} {x y : Str} (hx : PyData.strOk x = true) (hy : PyData.strOk y = true) : dEq (.str x) (.str y) m = .ok (.bl (decide (x = y))) m := by
  unfold dEq
  rw [show toP m DEEP (.str x) = some (.str x) from rfl, show toP m DEEP (.str y) = some (.str y) from rfl]
  dsimp only
  rw [if_pos ⟨canS1 x hx, canS1 y hy⟩, eqvStr]
theorem ok_st : PyData.strOk ("straight" : Str) = true := by decide +kernel
theorem ok_fo : PyData.strOk ("fork" : Str) = true := by decide +kernel
theorem ok_me : PyData.strOk ("meet" : Str) = true := by decide +kernel
theorem ne_sf : ¬ (("straight" : Str) = ("fork" : Str)) := by decide
theorem ne_sm : ¬ (("straight" : Str) = ("meet" : Str)) := by decide
theorem ne_fm : ¬ (("fork" : Str) = ("meet" : Str)) := by decide
theorem ne_mf : ¬ (("meet" : Str) = ("fork" : Str)) := by decide
theorem ok_word (x y : Nat) : PyData.strOk (wordX x y) = true := by
  unfold wordX
  split
  · exact ok_st
  · split
    · exact ok_fo
    · exact ok_me
theorem word_st (x y : Nat) : decide (wordX x y = ("straight" : Str)) = decide (x % 2 ≠ y % 2) := by
  by_cases h : x % 2 = y % 2
  · have hw : wordX x y = if x % 2 = 0 then ("fork" : Str) else ("meet" : Str) := if_neg fun z => z h
    rw [hw, show decide (x % 2 ≠ y % 2) = false from decide_eq_false fun z => z h]
    split
    · exact decide_eq_false fun z => ne_sf z.symm
    · exact decide_eq_false fun z => ne_sm z.symm
  · have hw : wordX x y = ("straight" : Str) := if_pos h
    rw [hw, show decide (x % 2 ≠ y % 2) = true from decide_eq_true h]; simp
theorem word_fo (nx : Nat → Nat) (x : Nat) : decide (wordX x (nx x) = ("fork" : Str)) = Ch.isFork nx x := by
  unfold wordX Ch.isFork Ch.ev
  rcases Nat.mod_two_eq_zero_or_one x with h1 | h1 <;> rcases Nat.mod_two_eq_zero_or_one (nx x) with h2 | h2 <;> simp [h1, h2, ne_sf, ne_mf]
theorem word_me (nx : Nat → Nat) (x : Nat) : decide (wordX x (nx x) = ("meet" : Str)) = Ch.isMeet nx x := by
  unfold wordX Ch.isMeet Ch.ev
  rcases Nat.mod_two_eq_zero_or_one x with h1 | h1 <;> rcases Nat.mod_two_eq_zero_or_one (nx x) with h2 | h2 <;> simp [h1, h2, ne_sm, ne_fm]
/-! ### how often the way turns -/
theorem strI_len {r : List Nat} : (strI r).length = Ch.sN r := by
  unfold strI Ch.sN
  rw [← List.countP_eq_length_filter]
  cases r with
  | nil => rfl
  | cons x l =>
    have hc : Ch.cy (x :: l) = (List.range (l.length + 1)).map fun i => ((x :: (l ++ [x])).getD i 0, (x :: (l ++ [x])).getD (i + 1) 0) := by
      show Ch.pp (x :: (l ++ [x])) = _
      rw [Ch.pp_get]; simp
    have hL : ∀ i, i ≤ l.length → (x :: (l ++ [x])).getD i 0 = (x :: l).getD i 0 := fun i hi => by
      simp only [List.getD]
      rw [show x :: (l ++ [x]) = (x :: l) ++ [x] by simp, List.getElem?_append_left (by simp; omega)]
    have hE : (x :: (l ++ [x])).getD (l.length + 1) 0 = x := by
      simp [List.getD]
    have a1 : ∀ q : Nat → Bool, (List.range (l.length + 1)).countP q = (List.range l.length).countP (q ∘ Nat.succ) + if q 0 = true then 1 else 0 := fun q => by
      rw [List.range_succ_eq_map, List.countP_cons, List.countP_map]
    have a2 : ∀ q : Nat → Bool, (List.range (l.length + 1)).countP q = (List.range l.length).countP q + if q l.length = true then 1 else 0 := fun q => by
      rw [List.range_succ, List.countP_append, List.countP_cons, List.countP_nil, Nat.zero_add]
    rw [hc, List.countP_map, List.length_cons, a1, a2]
    congr 1
    · apply List.countP_congr
      intro i hi
      have hi' := List.mem_range.mp hi
      show (decide (pv (x :: l) (i + 1) % 2 ≠ (x :: l).getD (i + 1) 0 % 2) = true) ↔ (Ch.st ((x :: (l ++ [x])).getD i 0, (x :: (l ++ [x])).getD (i + 1) 0) = true)
      have : pv (x :: l) (i + 1) = (x :: l).getD i 0 := by unfold pv; rw [if_neg (by omega)]; simp
      rw [hL i (by omega), hL (i + 1) (by omega), this]
      exact Iff.rfl
    · have h2 : decide (pv (x :: l) 0 % 2 ≠ (x :: l).getD 0 0 % 2) = (Ch.st ∘ fun i => ((x :: (l ++ [x])).getD i 0, (x :: (l ++ [x])).getD (i + 1) 0)) l.length := by
        show _ = Ch.st ((x :: (l ++ [x])).getD l.length 0, (x :: (l ++ [x])).getD (l.length + 1) 0)
        have : pv (x :: l) 0 = (x :: l).getD l.length 0 := by unfold pv; rw [if_pos rfl]; simp
        rw [hE, hL l.length (by omega), this]
        rfl
      rw [h2]
theorem w_changes (r : List Nat) (hl : r.length < 1000) (m : Mem) : ∃ m', f_changes [tI r] m = .ok (I (Ch.sN r)) m' ∧ Pre m m' := by
  have hit : iA enm (aCons (eVar 0) (aNil)) [some (tI r), none, none] m = .ok (enumD (r.map I), []) m := rfl
  obtain ⟨m', w1, w2, w3⟩ := lc_grow (it := iA enm (aCons (eVar 0) (aNil))) (tg := gT 2 (gsCons (gN 1) (gsCons (gN 2) (gsNil)))) (tt := tVal (eOp dEq (eCall f_word_between (aCons (eOp dIx (eVar 0) (eOp dSub (eVar 1) (eC (.int 1)))) (aCons (eVar 2) (aNil)))) (eC (.str "straight")))) (el := eVar 1) (vs := [1, 2]) (e := [some (tI r), none, none]) (m := m) (fun i : Nat => D.tup [I i, I (r.getD i 0)]) (List.range r.length) (fun i => decide (pv r i % 2 ≠ r.getD i 0 % 2)) (fun i => I i) hit (by
      rw [enumD_enk, enk_zip]
      apply List.ext_getElem?
      intro i
      rw [List.getElem?_map, List.getElem?_map, List.getElem?_zipIdx]
      by_cases hi : i < r.length
      · rw [List.getElem?_eq_getElem hi, List.getElem?_range hi]
        simp [List.getD, List.getElem?_eq_getElem hi]
      · rw [List.getElem?_eq_none (by omega), List.getElem?_eq_none (by simp; omega)]; rfl) gd_nil (by simp; omega) (fun i hi m' _ => by
    have hi' := List.mem_range.mp hi
    refine ⟨[some (tI r), some (I i), some (I (r.getD i 0))], m', rfl, ?_, .refl, fun _ => ⟨m', rfl, .refl⟩⟩
    have hx : dIx (tI r) (.int ((i : Int) - 1)) m' = .ok (I (pv r i)) m' := v_ixT (atI_pv hi')
    rw [t_v (e_op (e_call (a_c (e_op rfl (e_op rfl rfl (show dSub (I i) (.int 1) m' = .ok (.int ((i : Int) - 1)) m' from rfl)) hx) (a_c rfl rfl)) (w_word_between _ _ _)) rfl (v_eqS (ok_word _ _) ok_st)), word_st])
  refine ⟨m', ?_, w2⟩
  unfold f_changes afOf a_changes
  show ((sRet _ [some (tI r), none, none] m).f) = _
  rw [s_ret (e_call (a_c w1 rfl) (v_lenL w3)), v_frt]
  rw [List.length_map, ← strI_len]
  rfl
end Cl
set_option Elab.async false
set_option linter.all false
set_option maxRecDepth 100000
namespace Cl
open PySem PySem.Spec PyProof.Rows L2 Ab
def idxsK {α : Type} (P : α → Bool) (l : List α) (k : Nat) : List Nat := ((l.zipIdx k).filter fun p => P p.1).map (·.2)
theorem idxsK_cons {α : Type} {P : α → Bool} {x : α} {l : List α} {k : Nat} : idxsK P (x :: l) k = if P x = true then k :: idxsK P l (k + 1) else idxsK P l (k + 1) := by
  unfold idxsK
  rw [List.zipIdx_cons]
  by_cases h : P x = true
  · rw [if_pos h, List.filter_cons_of_pos (p := fun p : α × Nat => P p.1) (a := (x, k)) h]; rfl
  · rw [if_neg h, List.filter_cons_of_neg (p := fun p : α × Nat => P p.1) (a := (x, k)) h]
theorem idxs_map {α β : Type} {P : β → Bool} {Q : α → Bool} {g : α → β} (h : ∀ x, P (g x) = Q x) : ∀ (l : List α) (k : Nat), idxsK P (l.map g) k = idxsK Q l k
  | [], k => rfl
  | x :: l, k => by rw [List.map_cons, idxsK_cons, idxsK_cons, h, idxs_map h l (k + 1)]
theorem idxs_congr {α : Type} {P Q : α → Bool} : ∀ (l : List α) (k : Nat), (∀ x ∈ l, P x = Q x) → idxsK P l k = idxsK Q l k
  | [], k, _ => rfl
  | x :: l, k, h => by rw [idxsK_cons, idxsK_cons, h x List.mem_cons_self, idxs_congr l (k + 1) fun y hy => h y (List.mem_cons_of_mem _ hy)]
theorem idxs_len {α : Type} {P : α → Bool} : ∀ (l : List α) (k : Nat), (idxsK P l k).length = l.countP P
  | [], k => rfl
  | x :: l, k => by
    rw [idxsK_cons, List.countP_cons]
    split
    · rw [List.length_cons, idxs_len l (k + 1)]
    · rw [idxs_len l (k + 1)]; omega
theorem idxs_none {α : Type} {P : α → Bool} : ∀ (l : List α) (k : Nat), (idxsK P l k).head? = none → ∀ x ∈ l, P x = false
  | [], k, _, x, hx => by cases hx
  | y :: l, k, h, x, hx => by
    rw [idxsK_cons] at h
    by_cases hp : P y = true
    · rw [if_pos hp] at h; cases h
    · rw [if_neg hp] at h
      rcases List.mem_cons.mp hx with z | z
      · subst z; simpa using hp
      · exact idxs_none l (k + 1) h x z
abbrev tipQ : List Nat → Bool := fun r => decide (Ch.sN r = 0)
abbrev tanQ : List Nat → Bool := fun r => decide (2 < Ch.sN r)
def tanD (rs : List (List Nat)) : D := match (idxsK tanQ rs 0).head? with
  | some i => I i
  | none => .non
theorem filt_idx {P : List Nat → Bool} (rs : List (List Nat)) (k : Nat) : (((rs.zipIdx k).filter fun p => P p.1).map fun p => I p.2) = (idxsK P rs k).map I := by
  unfold idxsK
  rw [List.map_map]; rfl
section
variable {c : Nat} {m : Mem} {P : Nat} {arr : List (Nat × Nat)} {rs : List (List Nat)} {o : Nat} {ps : List D}
theorem w_tips (C : ChI c m P arr rs o ps) (hr : ∀ r ∈ rs, r.length < 1000) (hl : rs.length < 1000) : Ok (f_tips [.ref c] m) fun d m' => d = .tup ((idxsK tipQ rs 0).map I) ∧ Pre m m' := by
  have hit : iA enm (aCons (eFld "Chart" "rounds" (eVar 0)) (aNil)) [some (.ref c), none, none] m = .ok (enumD (rs.map tI), []) m := by
    rw [w_iA, a_c (C.f_rounds (v_v0 (z := none))) rfl, v_bind]; rfl
  obtain ⟨m', w1, w2, w3⟩ := lc_grow (it := iA enm (aCons (eFld "Chart" "rounds" (eVar 0)) (aNil))) (tg := gT 2 (gsCons (gN 1) (gsCons (gN 2) (gsNil)))) (tt := tVal (eOp dEq (eCall f_changes (aCons (eVar 2) (aNil))) (eC (.int 0)))) (el := eVar 1) (vs := [1, 2]) (e := [some (.ref c), none, none]) (m := m) (fun p : List Nat × Nat => D.tup [I p.2, tI p.1]) rs.zipIdx (fun p => tipQ p.1) (fun p => I p.2) hit (by rw [enumD_enk, enk_zip]) gd_nil (by simp; omega) (fun p hp m' _ => by
    have hpr : p.1 ∈ rs := by
      obtain ⟨a, b⟩ := p
      exact List.mem_of_getElem? (List.mk_mem_zipIdx_iff_getElem?.mp hp)
    obtain ⟨m2, e2, p2⟩ := w_changes p.1 (hr _ hpr) m'
    refine ⟨[some (.ref c), some (I p.2), some (tI p.1)], m2, rfl, ?_, p2, fun _ => ⟨m2, rfl, .refl⟩⟩
    rw [t_v (e_op (e_call (a_c rfl rfl) e2) rfl (show dEq (I (Ch.sN p.1)) (.int 0) m2 = .ok (.bl (tipQ p.1)) m2 from w_eqII _ 0 _))])
  unfold f_tips afOf a_tips
  show Ok ((sRet _ [some (.ref c), none, none] m).f) _
  rw [s_ret (e_call (a_c w1 rfl) (v_tupL w3)), v_frt]
  exact ⟨by rw [filt_idx], w2⟩
theorem forL_rtE {tg : AG} {b : AS} {gd : Gd} {d x : D} {r : List D} {e e2 : Env'} {m m3 : Mem} (hg : gd.Ok m) (ht : tg d e m = .ok e2 m) (hb : b e2 m = .rt x m3) : forL tg b gd (d :: r) e m = .rt x m3 := by
  rw [show forL tg b gd (d :: r) e m = _ from by unfold forL; rfl, if_pos hg, ht]
  show (match b e2 m with | .nx e m => forL tg b gd r e m | .ct e m => forL tg b gd r e m | .bk e m => .nx e m | .rt d m => .rt d m | .er x e m => .er x e m | .no => .no) = _
  rw [hb]
noncomputable def wTan : AS := sIf (tVal (eOp dGt (eCall f_changes (aCons (eVar 2) (aNil))) (eC (.int 2)))) (sRet (eVar 1)) (sSkip)
theorem gt2 (n : Nat) (m : Mem) : dGt (I n) (.int 2) m = .ok (.bl (decide (2 < n))) m := by
  show R.ok (D.bl (decide ((2 : Int) < (n : Int)))) m = _
  congr 2
  exact decide_eq_decide.mpr ⟨fun q => by omega, fun q => by omega⟩
theorem w_tanL {C : D} : ∀ (q : List (List Nat)) (k : Nat) (m : Mem) (x1 x2 : Option D), (∀ r ∈ q, r.length < 1000) → match (idxsK tanQ q k).head? with
    | some i => ∃ m', forL (gT 2 (gsCons (gN 1) (gsCons (gN 2) (gsNil)))) wTan [] (enk k (q.map tI)) [some C, x1, x2] m = .rt (I i) m' ∧ Pre m m'
    | none => ∃ y1 y2 m', forL (gT 2 (gsCons (gN 1) (gsCons (gN 2) (gsNil)))) wTan [] (enk k (q.map tI)) [some C, x1, x2] m = .nx [some C, y1, y2] m' ∧ Pre m m'
  | [], k, m, x1, x2, _ => ⟨x1, x2, m, by rw [List.map_nil, show enk k [] = [] from rfl, forL_nil gd_nil], .refl⟩
  | r :: q, k, m, x1, x2, h => by
    obtain ⟨m2, e2, p2⟩ := w_changes r (h r List.mem_cons_self) m
    have ih := w_tanL (C := C) q (k + 1) m2 (some (I k)) (some (tI r)) (fun z hz => h z (List.mem_cons_of_mem _ hz))
    have t1 : tVal (eOp dGt (eCall f_changes (aCons (eVar 2) (aNil))) (eC (.int 2))) [some C, some (I k), some (tI r)] m = .ok (tanQ r) m2 := t_v (e_op (e_call (a_c rfl rfl) e2) rfl (gt2 _ _))
    rw [idxsK_cons, List.map_cons, enk_cons]
    cases ht : tanQ r with
    | true =>
      rw [ht] at t1
      rw [if_pos rfl]
      refine ⟨m2, forL_rtE (e2 := [some C, some (I k), some (tI r)]) gd_nil rfl ?_, p2⟩
      unfold wTan
      rw [v_sifT t1, s_ret rfl]
    | false =>
      rw [ht] at t1
      rw [if_neg Bool.false_ne_true]
      have hb : wTan [some C, some (I k), some (tI r)] m = .nx [some C, some (I k), some (tI r)] m2 := by
        unfold wTan
        rw [v_sifF t1, v_skip]
      have hf := forL_nx (tg := gT 2 (gsCons (gN 1) (gsCons (gN 2) (gsNil)))) (r := enk (k + 1) (q.map tI)) (d := .tup [.int (k : Int), tI r]) (e := [some C, x1, x2]) (e2 := [some C, some (I k), some (tI r)]) gd_nil rfl hb
      cases hh : (idxsK tanQ q (k + 1)).head? with
      | some i =>
        rw [hh] at ih
        obtain ⟨m', w1, w2⟩ := ih
        exact ⟨m', hf.trans w1, p2.trans w2⟩
      | none =>
        rw [hh] at ih
        obtain ⟨y1, y2, m', w1, w2⟩ := ih
        exact ⟨y1, y2, m', hf.trans w1, p2.trans w2⟩
theorem w_tangled (C : ChI c m P arr rs o ps) (hr : ∀ r ∈ rs, r.length < 1000) : Ok (f_tangled [.ref c] m) fun d m' => d = tanD rs ∧ Pre m m' := by
  have hit : iA enm (aCons (eFld "Chart" "rounds" (eVar 0)) (aNil)) [some (.ref c), none, none] m = .ok (enk 0 (rs.map tI), []) m := by
    rw [w_iA, a_c (C.f_rounds (v_v0 (z := none))) rfl, v_bind]; rfl
  have hL := w_tanL (C := .ref c) rs 0 m none none hr
  unfold f_tangled afOf a_tangled
  show Ok ((sSeq (sFor _ _ wTan) _ [some (.ref c), none, none] m).f) _
  rw [v_seq, w_for, hit, v_o]
  unfold tanD
  cases hh : (idxsK tanQ rs 0).head? with
  | some i =>
    rw [hh] at hL
    obtain ⟨m', w1, w2⟩ := hL
    show Ok ((O.seq (forL _ wTan [] _ _ m) _).f) _
    rw [w1, v_rt, v_frt]
    exact ⟨rfl, w2⟩
  | none =>
    rw [hh] at hL
    obtain ⟨y1, y2, m', w1, w2⟩ := hL
    show Ok ((O.seq (forL _ wTan [] _ _ m) _).f) _
    rw [w1, v_nx, s_ret rfl, v_frt]
    exact ⟨rfl, w2⟩
end
/-! ### the law's own -/
theorem w_straightsT {r : List Nat} (hl : r.length < 1000) (m : Mem) : ∃ m', f_law_straights [tI r] m = .ok (I (Ch.sN r)) m' ∧ Pre m m' := by
  have lenT : ∀ m, bLen [tI r] m = .ok (I r.length) m := fun m => by unfold tI; rw [v_lenT]; simp [I]
  have hx : (aCons (eCall bLen (aCons (eVar 0) (aNil))) (aNil)) [some (tI r), none] m = .ok [I r.length] m := a_c (e_call (a_c rfl rfl) (lenT _)) rfl
  have e1 := lc_eq (it := iA rng1 (aCons (eCall bLen (aCons (eVar 0) (aNil))) (aNil))) (tg := gN 1) (tt := tVal (eOp dNe (eOp dMod (eCall bInt (aCons (eOp dIx (eVar 0) (eVar 1)) (aNil))) (eC (.int 2))) (eOp dMod (eCall bInt (aCons (eOp dIx (eVar 0) (eOp dSub (eVar 1) (eC (.int 1)))) (aNil))) (eC (.int 2))))) (el := eVar 1) (vs := [1]) (e := [some (tI r), none]) (m := m) (fun i : Nat => D.int (i : Int)) (List.range r.length) (fun i => decide (pv r i % 2 ≠ r.getD i 0 % 2)) I (w_rng1 hx hl) rfl (fun acc => gd_nil) (by simp; omega) (fun i hi acc => by
    have hi' := List.mem_range.mp hi
    have x1 : dIx (tI r) (I i) (m ++ [Cell.lst acc]) = .ok (I (r.getD i 0)) (m ++ [Cell.lst acc]) := v_ixT (atI_nat (by rw [List.getElem?_map, List.getElem?_eq_getElem hi']; simp [List.getD, List.getElem?_eq_getElem hi']))
    have x2 : dIx (tI r) (.int ((i : Int) - 1)) (m ++ [Cell.lst acc]) = .ok (I (pv r i)) (m ++ [Cell.lst acc]) := v_ixT (atI_pv hi')
    refine ⟨[some (tI r), some (I i)], rfl, t_v ?_, fun _ => rfl⟩
    rw [e_op (e_op (e_call (a_c (e_op rfl rfl x1) rfl) rfl) rfl (v_mod2 _ _)) (e_op (e_call (a_c (e_op rfl (e_op rfl rfl rfl) x2) rfl) rfl) rfl (v_mod2 _ _)) (w_neII _ _ _)]
    congr 2
    by_cases z : r.getD i 0 % 2 = pv r i % 2
    · rw [decide_eq_true z, decide_eq_false (by omega)]; rfl
    · rw [decide_eq_false z, decide_eq_true (by omega)]; rfl)
  refine ⟨_, ?_, Pre.add (x := [Cell.lst (List.map I (List.filter (fun i => decide (pv r i % 2 ≠ r.getD i 0 % 2)) (List.range r.length)))])⟩
  unfold f_law_straights afOf a_law_straights
  show ((sRet _ [some (tI r), none] m).f) = _
  rw [s_ret (e_call (a_c e1 rfl) (v_lenL new_get)), v_frt, List.length_map, ← strI_len]
  rfl
theorem w_ltangled {rs : List (List Nat)} (hr : ∀ r ∈ rs, r.length < 1000) (hl : rs.length < 1000) (m : Mem) : Ok (f_law_tangled [.tup (rs.map tI)] m) fun d m' => d = tanD rs ∧ Pre m m' := by
  have hit : iA enm (aCons (eVar 0) (aNil)) [some (.tup (rs.map tI)), none, none, none] m = .ok (enumD (rs.map tI), []) m := rfl
  obtain ⟨m', w1, w2, w3⟩ := lc_grow (it := iA enm (aCons (eVar 0) (aNil))) (tg := gT 2 (gsCons (gN 2) (gsCons (gN 3) (gsNil)))) (tt := tVal (eOp dGt (eCall f_law_straights (aCons (eVar 3) (aNil))) (eC (.int 2)))) (el := eVar 2) (vs := [2, 3]) (e := [some (.tup (rs.map tI)), none, none, none]) (m := m) (fun p : List Nat × Nat => D.tup [I p.2, tI p.1]) rs.zipIdx (fun p => tanQ p.1) (fun p => I p.2) hit (by rw [enumD_enk, enk_zip]) gd_nil (by simp; omega) (fun p hp m' _ => by
    have hpr : p.1 ∈ rs := by
      obtain ⟨a, b⟩ := p
      exact List.mem_of_getElem? (List.mk_mem_zipIdx_iff_getElem?.mp hp)
    obtain ⟨m2, e2, p2⟩ := w_straightsT (hr _ hpr) m'
    refine ⟨[some (.tup (rs.map tI)), none, some (I p.2), some (tI p.1)], m2, rfl, ?_, p2, fun _ => ⟨m2, rfl, .refl⟩⟩
    rw [t_v (e_op (e_call (a_c rfl rfl) e2) rfl (gt2 _ _))])
  rw [filt_idx] at w3
  unfold f_law_tangled afOf a_law_tangled
  show Ok ((sSeq (sAsg _ (gN 1)) _ [some (.tup (rs.map tI)), none, none, none] m).f) _
  rw [v_seq, s_asg w1, v_nx]
  unfold tanD
  cases hh : idxsK tanQ rs 0 with
  | nil =>
    rw [hh] at w3
    have t1 : tVal (eOp dGt (eCall bLen (aCons (eVar 1) (aNil))) (eC (.int 0))) [some (.tup (rs.map tI)), some (.ref m.length), none, none] m' = .ok false m' := t_v (e_op (e_call (a_c rfl rfl) (v_lenL w3)) rfl rfl)
    show Ok ((sRet _ [some (.tup (rs.map tI)), some (.ref m.length), none, none] m').f) _
    rw [s_ret ((e_ifF t1).trans rfl), v_frt]
    exact ⟨rfl, w2⟩
  | cons i l =>
    rw [hh] at w3
    have t1 : tVal (eOp dGt (eCall bLen (aCons (eVar 1) (aNil))) (eC (.int 0))) [some (.tup (rs.map tI)), some (.ref m.length), none, none] m' = .ok true m' := t_v (e_op (e_call (a_c rfl rfl) (v_lenL w3)) rfl (by
      show R.ok (D.bl (decide ((0 : Int) < (((i :: l).map I).length : Int)))) m' = _
      rw [decide_eq_true (by simp)]))
    show Ok ((sRet _ [some (.tup (rs.map tI)), some (.ref m.length), none, none] m').f) _
    rw [s_ret ((e_ifT t1).trans (e_op rfl rfl (v_ixL w3 (List.map_cons ▸ atI_zero)))), v_frt]
    exact ⟨rfl, w2⟩
/-! how many a set of parities has -/
theorem dd_mem (ns : List Int) : ∀ y ∈ ns, y ∈ ddI ns := by
  have : ∀ (ns acc : List Int), (∀ y ∈ acc, y ∈ ns.foldl (fun acc x => if acc.any (· == x) then acc else acc ++ [x]) acc) ∧ ∀ y ∈ ns, y ∈ ns.foldl (fun acc x => if acc.any (· == x) then acc else acc ++ [x]) acc := by
    intro ns
    induction ns with
    | nil => intro acc; exact ⟨fun y hy => hy, fun y hy => by cases hy⟩
    | cons x ns ih =>
      intro acc
      rw [List.foldl_cons]
      split
      · rename_i h
        obtain ⟨h1, h2⟩ := ih acc
        refine ⟨h1, fun y hy => ?_⟩
        rcases List.mem_cons.mp hy with z | z
        · subst z
          obtain ⟨w, hw, e⟩ := List.any_eq_true.mp h
          exact h1 y (by rw [← eq_of_beq e]; exact hw)
        · exact h2 y z
      · obtain ⟨h1, h2⟩ := ih (acc ++ [x])
        refine ⟨fun y hy => h1 y (List.mem_append_left _ hy), fun y hy => ?_⟩
        rcases List.mem_cons.mp hy with z | z
        · subst z; exact h1 y (by simp)
        · exact h2 y z
  exact (this ns []).2
theorem dd_one {x : Int} {ns : List Int} : (ddI (x :: ns)).length = 1 ↔ ∀ y ∈ x :: ns, y = x := by
  constructor
  · intro h y hy
    have h1 := dd_mem (x :: ns) y hy
    have h2 := dd_mem (x :: ns) x List.mem_cons_self
    obtain ⟨a, ha⟩ := List.length_eq_one_iff.mp h
    rw [ha] at h1 h2
    rw [List.mem_singleton.mp h1, List.mem_singleton.mp h2]
  · intro h
    have : ∀ (l : List Int), (∀ y ∈ l, y = x) → l.foldl (fun acc x => if acc.any (· == x) then acc else acc ++ [x]) [x] = [x] := by
      intro l
      induction l with
      | nil => intro _; rfl
      | cons y l ih =>
        intro hl
        rw [List.foldl_cons, hl y List.mem_cons_self]
        simp only [List.any_cons, List.any_nil, beq_self_eq_true, Bool.or_false, if_true]
        exact ih fun z hz => hl z (List.mem_cons_of_mem _ hz)
    show (List.foldl _ [] (x :: ns)).length = 1
    rw [List.foldl_cons]
    show (List.foldl _ [x] ns).length = 1
    rw [this ns fun y hy => h y (List.mem_cons_of_mem _ hy)]; rfl
theorem dd_par {r : List Nat} (hr : r ≠ []) : decide ((ddI (r.map fun x => ((x % 2 : Nat) : Int))).length = 1) = tipQ r := by
  cases r with
  | nil => exact absurd rfl hr
  | cons x l =>
    apply decide_eq_decide.mpr
    rw [List.map_cons, dd_one, Ch.sN_zero (x := x) List.mem_cons_self, ← List.map_cons (f := fun x => ((x % 2 : Nat) : Int))]
    constructor
    · intro h y hy
      have := h _ (List.mem_map.mpr ⟨y, hy, rfl⟩)
      omega
    · intro h y hy
      obtain ⟨z, hz, rfl⟩ := List.mem_map.mp hy
      have := h z hz
      omega
theorem w_ltips {rs : List (List Nat)} (hne : ∀ r ∈ rs, r ≠ []) (hr : ∀ r ∈ rs, r.length < 1000) (hl : rs.length < 1000) (m : Mem) : Ok (f_law_tips [.tup (rs.map tI)] m) fun d m' => d = .ref m.length ∧ Pre m m' ∧ m'[m.length]? = some (.lst ((idxsK tipQ rs 0).map I)) := by
  have hit : iA enm (aCons (eVar 0) (aNil)) [some (.tup (rs.map tI)), none, none, none] m = .ok (enumD (rs.map tI), []) m := rfl
  obtain ⟨m', w1, w2, w3⟩ := lc_grow (it := iA enm (aCons (eVar 0) (aNil))) (tg := gT 2 (gsCons (gN 1) (gsCons (gN 2) (gsNil)))) (tt := tVal (eOp dEq (eSetLen (eLc (iE (eVar 2)) (gN 3) (tYesA) (eOp dMod (eCall bInt (aCons (eVar 3) (aNil))) (eC (.int 2))) [3])) (eC (.int 1)))) (el := eVar 1) (vs := [1, 2]) (e := [some (.tup (rs.map tI)), none, none, none]) (m := m) (fun p : List Nat × Nat => D.tup [I p.2, tI p.1]) rs.zipIdx (fun p => tipQ p.1) (fun p => I p.2) hit (by rw [enumD_enk, enk_zip]) gd_nil (by simp; omega) (fun p hp m' _ => by
    have hpr : p.1 ∈ rs := by
      obtain ⟨a, b⟩ := p
      exact List.mem_of_getElem? (List.mk_mem_zipIdx_iff_getElem?.mp hp)
    have hlr := hr _ hpr
    have e1 := lc_eq (it := iE (eVar 2)) (tg := gN 3) (tt := tYesA) (el := eOp dMod (eCall bInt (aCons (eVar 3) (aNil))) (eC (.int 2))) (vs := [3]) (e := [some (.tup (rs.map tI)), some (I p.2), some (tI p.1), none]) (m := m') I p.1 (fun _ => true) (fun x => I (x % 2)) (show iE (eVar 2) [some (.tup (rs.map tI)), some (I p.2), some (tI p.1), none] m' = .ok (p.1.map I, []) m' from rfl) rfl (fun acc => gd_nil) (by omega) (fun x _ acc => ⟨[some (.tup (rs.map tI)), some (I p.2), some (tI p.1), some (I x)], rfl, rfl, fun _ => e_op (e_call (a_c rfl rfl) rfl) rfl (v_mod2 _ _)⟩)
    rw [filt_t] at e1
    have e2 : eSetLen (eLc (iE (eVar 2)) (gN 3) (tYesA) (eOp dMod (eCall bInt (aCons (eVar 3) (aNil))) (eC (.int 2))) [3]) [some (.tup (rs.map tI)), some (I p.2), some (tI p.1), none] m' = .ok (.int ((ddI (p.1.map fun x => ((x % 2 : Nat) : Int))).length : Nat)) (m' ++ [.lst (p.1.map fun x => I (x % 2))]) := by
      unfold eSetLen
      rw [e1, v_bind]
      dsimp only
      rw [new_get]
      dsimp only
      have hi : intsD (p.1.map fun x => I (x % 2)) = some (p.1.map fun x => ((x % 2 : Nat) : Int)) := by
        have := intsI (p.1.map fun x => x % 2)
        rw [List.map_map, List.map_map] at this
        exact this
      rw [hi]
      dsimp only
      rw [if_pos (by simp; omega)]
    refine ⟨[some (.tup (rs.map tI)), some (I p.2), some (tI p.1), none], m' ++ [.lst (p.1.map fun x => I (x % 2))], rfl, ?_, .add, fun _ => ⟨_, rfl, .refl⟩⟩
    rw [t_v (e_op e2 rfl (w_eqII _ 1 _)), dd_par (hne _ hpr)])
  unfold f_law_tips afOf a_law_tips
  show Ok ((sRet _ [some (.tup (rs.map tI)), none, none, none] m).f) _
  rw [s_ret w1, v_frt]
  exact ⟨rfl, w2, by rw [w3, filt_idx]⟩
end Cl
set_option Elab.async false
set_option linter.all false
set_option maxRecDepth 100000
namespace Cl
open PySem PySem.Spec PyProof.Rows L2 Ab
/-! # what the rims ask for -/
theorem wdAll_old (rs : List (List Nat)) {k : Nat} : ∀ (ys : List Nat) (l : List D), (∀ y ∈ ys, Ch.prd rs y ≠ k) → (wdAll rs l ys)[k]? = l[k]?
  | [], l, _ => rfl
  | y :: ys, l, h => by
    show (wdAll rs (l.set (Ch.prd rs y) (.str (wordX (Ch.prd rs y) y))) ys)[k]? = _
    rw [wdAll_old rs ys _ fun z hz => h z (List.mem_cons_of_mem _ hz), List.getElem?_set_ne (h y List.mem_cons_self)]
theorem wdAll_get (rs : List (List Nat)) : ∀ (ys : List Nat) (l : List D) (y : Nat), (ys.map (Ch.prd rs)).Nodup → y ∈ ys → Ch.prd rs y < l.length → (wdAll rs l ys)[Ch.prd rs y]? = some (.str (wordX (Ch.prd rs y) y))
  | z :: ys, l, y, hn, h, hl => by
    show (wdAll rs (l.set (Ch.prd rs z) (.str (wordX (Ch.prd rs z) z))) ys)[Ch.prd rs y]? = _
    rw [List.map_cons, List.nodup_cons] at hn
    rcases List.mem_cons.mp h with e | e
    · subst e
      rw [wdAll_old rs ys _ fun w hw q => hn.1 (List.mem_map.mpr ⟨w, hw, q⟩), List.getElem?_set_self hl]
    · exact wdAll_get rs ys _ y hn.2 e (by simpa using hl)
theorem wdsX_get {rs rims : List (List Nat)} {N : Nat} (F : Ch.Flat rs rims N) {x : Nat} (hx : x < N) : (wdsX rs N)[x]? = some (.str (wordX x (Ch.nxt rs x))) := by
  have hm : x ∈ rs.flatten := F.rN.mem_iff.mpr (List.mem_range.mpr hx)
  have hP := Ch.P_nxt F.nd hm
  have e := Ch.prd_eq F.nd hP
  have := wdAll_get rs rs.flatten (List.replicate N (.str "")) (Ch.nxt rs x) (prd_nodup F.nd) (Ch.P_in hP).2 (by rw [e]; simpa using hx)
  rw [e] at this
  exact this
def asI (nx : Nat → Nat) (o : Nat) (f : List Nat) : Int := if o ∈ f then ((f.countP (Ch.isFork nx) : Nat) : Int) + 1 else ((f.countP (Ch.isFork nx) : Nat) : Int) - 1
def asD (nx : Nat → Nat) (o : Nat) (f : List Nat) : D := .int (asI nx o f)
noncomputable def wAsk : AS :=
    (sSeq (sAsg (eCall bLen (aCons (eLc (iE (eVar 3)) (gN 5) (tVal (eOp dEq (eOp dIx (eVar 1) (eVar 5)) (eC (.str "fork")))) (eVar 5) [5]) (aNil))) (gN 4))
    (sIf (tVal (eOp dIn (eFld "Chart" "outer" (eVar 0)) (eVar 3)))
    (sExp (eMt isL mAppend (eVar 2) (aCons (eOp dAdd (eVar 4) (eC (.int 1))) (aNil))))
    (sExp (eMt isL mAppend (eVar 2) (aCons (eOp dSub (eVar 4) (eC (.int 1))) (aNil))))))
section
variable {c : Nat} {m : Mem} {P : Nat} {arr : List (Nat × Nat)} {rs rims : List (List Nat)} {o : Nat} {ps : List D}
theorem w_ask1 {kw kn : Nat} {N : Nat} {acc : List D} {x4 x5 : Option D} {f : List Nat} (C : ChI c m P arr rs o ps) (F : Ch.Flat rs rims N) (hw : m[kw]? = some (.lst (wdsX rs N))) (hk : m[kn]? = some (.lst acc)) (hf : ∀ e ∈ f, e < N) (hfl : f.length < 1000) (hal : acc.length < 1000) :
    ∃ y4 m', wAsk [some (.ref c), some (.ref kw), some (.ref kn), some (tI f), x4, x5] m = .nx [some (.ref c), some (.ref kw), some (.ref kn), some (tI f), y4, x5] m' ∧ Kp [kn] m m' ∧ m'[kn]? = some (.lst (acc ++ [asD (Ch.nxt rs) o f])) := by
  have e1 := lc_eq (it := iE (eVar 3)) (tg := gN 5) (tt := tVal (eOp dEq (eOp dIx (eVar 1) (eVar 5)) (eC (.str "fork")))) (el := eVar 5) (vs := [5]) (e := [some (.ref c), some (.ref kw), some (.ref kn), some (tI f), x4, x5]) (m := m) I f (Ch.isFork (Ch.nxt rs)) I (show iE (eVar 3) [some (.ref c), some (.ref kw), some (.ref kn), some (tI f), x4, x5] m = .ok (f.map I, []) m from rfl) rfl (fun acc => gd_nil) (by omega) (fun x hx acc => by
    refine ⟨[some (.ref c), some (.ref kw), some (.ref kn), some (tI f), x4, some (I x)], rfl, ?_, fun _ => rfl⟩
    have hx2 : dIx (.ref kw) (I x) (m ++ [Cell.lst acc]) = .ok (.str (wordX x (Ch.nxt rs x))) (m ++ [Cell.lst acc]) := v_ixL (Pre.add _ _ hw) (atI_nat (wdsX_get F (hf x hx)))
    rw [t_v (e_op (e_op rfl rfl hx2) rfl (v_eqS (ok_word _ _) ok_fo)), word_fo])
  obtain ⟨m1, hm1⟩ : ∃ m1, m1 = m ++ [Cell.lst ((f.filter (Ch.isFork (Ch.nxt rs))).map I)] := ⟨_, rfl⟩
  rw [← hm1] at e1
  have p1 : Pre m m1 := by rw [hm1]; exact .add
  have q1 : m1[m.length]? = some (.lst ((f.filter (Ch.isFork (Ch.nxt rs))).map I)) := by rw [hm1]; exact new_get
  have hlen : bLen [.ref m.length] m1 = .ok (I (f.countP (Ch.isFork (Ch.nxt rs)))) m1 := by
    rw [v_lenL q1, List.length_map, List.countP_eq_length_filter]; rfl
  have hk1 := p1 _ _ hk
  obtain ⟨n, hn⟩ : ∃ n, n = f.countP (Ch.isFork (Ch.nxt rs)) := ⟨_, rfl⟩
  rw [← hn] at hlen
  have s1 : sAsg (eCall bLen (aCons (eLc (iE (eVar 3)) (gN 5) (tVal (eOp dEq (eOp dIx (eVar 1) (eVar 5)) (eC (.str "fork")))) (eVar 5) [5]) (aNil))) (gN 4) [some (.ref c), some (.ref kw), some (.ref kn), some (tI f), x4, x5] m = .nx [some (.ref c), some (.ref kw), some (.ref kn), some (tI f), some (I n), x5] m1 := s_asg (e_call (a_c e1 rfl) hlen)
  have happ : ∀ d, mAppend (.ref kn) [d] m1 = .ok .non (m1.set kn (.lst (acc ++ [d]))) := fun d => v_append hk1 (by omega)
  have t1 : tVal (eOp dIn (eFld "Chart" "outer" (eVar 0)) (eVar 3)) [some (.ref c), some (.ref kw), some (.ref kn), some (tI f), some (I n), x5] m1 = .ok (decide (o ∈ f)) m1 := t_v (e_op ((C.pre p1).f_outer (v_v0 (z := none))) rfl (v_inT _ _ _))
  refine ⟨some (I n), m1.set kn (.lst (acc ++ [asD (Ch.nxt rs) o f])), ?_, (Kp.pre p1).trans (Kp.set (by simp)), get_set hk1⟩
  unfold wAsk
  rw [v_seq, s1, v_nx]
  by_cases ho : o ∈ f
  · rw [decide_eq_true ho] at t1
    have hd : asD (Ch.nxt rs) o f = .int ((n : Int) + 1) := by unfold asD asI; rw [if_pos ho, hn]
    rw [v_sifT t1, s_exp (e_mt rfl (w_isL hk1) (a_c (e_op rfl rfl rfl) rfl) (happ _)), hd]
  · rw [decide_eq_false ho] at t1
    have hd : asD (Ch.nxt rs) o f = .int ((n : Int) - 1) := by unfold asD asI; rw [if_neg ho, hn]
    rw [v_sifF t1, s_exp (e_mt rfl (w_isL hk1) (a_c (e_op rfl rfl rfl) rfl) (happ _)), hd]
theorem w_asks (C : ChI c m P arr rs o ps) (F : Ch.Flat rs rims (2 * arr.length)) (hn : arr.length ≤ 100) :
    Ok (f_asks [.ref c] m) fun d m' => d = .tup ((rimsX rims (List.range (2 * arr.length))).map (asD (Ch.nxt rs) o)) ∧ Pre m m' := by
  obtain ⟨_, m1, e1, kw, rfl, p1, l1, q1⟩ := ok_ex (w_words C F hn)
  obtain ⟨m2, hm2⟩ : ∃ m2, m2 = m1 ++ [Cell.lst []] := ⟨_, rfl⟩
  have p2 : Pre m1 m2 := by rw [hm2]; exact .add
  have q2 : m2[m1.length]? = some (.lst []) := by rw [hm2]; exact new_get
  have C2 := (C.pre p1).pre p2
  obtain ⟨_, m3, e3, kr, rfl, p3, l3, q3, A⟩ := ok_ex (w_rims_ch C2 F hn)
  have hl2 : m2.length = m1.length + 1 := by rw [hm2]; simp
  have hkw : kw < m1.length := (List.getElem?_eq_some_iff.mp q1).1
  have hc : c < m.length := (List.getElem?_eq_some_iff.mp C).1
  have hlm := p1.len
  obtain ⟨fs, hfs⟩ : ∃ fs, fs = rimsX rims (List.range (2 * arr.length)) := ⟨_, rfl⟩
  rw [← hfs] at q3 A ⊢
  have hfl : fs.length ≤ 200 := by rw [A.len]; have := rims_len F; omega
  have hff : ∀ f ∈ fs, f.length < 1000 := fun f hf => by
    obtain ⟨a, b, hab⟩ := Ch.mem_cut hf
    have := A.perm.length_eq
    rw [hab, List.length_range] at this
    simp [List.length_flatten] at this
    omega
  have loop : ∀ (a b : List (List Nat)) (m' : Mem) (x3 x4 x5 : Option D), fs = a ++ b → Kp [m1.length] m3 m' → m'[m1.length]? = some (.lst (a.map (asD (Ch.nxt rs) o))) →
      ∃ y3 y4 y5 m'', forL (gN 3) wAsk [(kr, .lst (fs.map tI))] (b.map tI) [some (.ref c), some (.ref kw), some (.ref m1.length), x3, x4, x5] m' = .nx [some (.ref c), some (.ref kw), some (.ref m1.length), y3, y4, y5] m'' ∧ Kp [m1.length] m3 m'' ∧ m''[m1.length]? = some (.lst (fs.map (asD (Ch.nxt rs) o))) := by
    intro a b
    induction b generalizing a with
    | nil =>
      intro m' x3 x4 x5 hab hk hm
      have : a = fs := by simpa using hab.symm
      subst this
      exact ⟨x3, x4, x5, m', by rw [List.map_nil, forL_nil (gd_one (hk _ _ q3 (by simp; omega)))], hk, hm⟩
    | cons f b ih =>
      intro m' x3 x4 x5 hab hk hm
      have hfm : f ∈ fs := by rw [hab]; simp
      have hal : a.length < 1000 := by have := congrArg List.length hab; simp at this; omega
      have C3 : ChI c m' P arr rs o ps := hk _ _ (p3 _ _ C2) (by simp; omega)
      have hw3 := hk _ _ (p3 _ _ (p2 _ _ q1)) (by simp; omega)
      obtain ⟨y4, m4, w1, w2, w3⟩ := w_ask1 (kn := m1.length) (x4 := x4) (x5 := x5) (f := f) C3 F hw3 hm (A.lt f hfm) (hff f hfm) (by simpa using hal)
      obtain ⟨z3, z4, z5, m5, u1, u2, u3⟩ := ih (a ++ [f]) m4 (some (tI f)) y4 x5 (by simp [hab]) (hk.trans w2) (by rw [w3]; simp)
      refine ⟨z3, z4, z5, m5, ?_, u2, u3⟩
      rw [List.map_cons, forL_nx (e2 := [some (.ref c), some (.ref kw), some (.ref m1.length), some (tI f), x4, x5]) (gd_one (hk _ _ q3 (by simp; omega))) rfl w1]
      exact u1
  obtain ⟨y3, y4, y5, m4, w1, w2, w3⟩ := loop [] fs m3 none none none rfl .refl (p3 _ _ q2)
  have hit : iE (eCall f_rims (aCons (eVar 0) (aNil))) [some (.ref c), some (.ref kw), some (.ref m1.length), none, none, none] m2 = .ok (fs.map tI, [(kr, .lst (fs.map tI))]) m3 := by
    rw [w_iE, e_call (a_c rfl rfl) e3, v_bind, v_itL q3]
  unfold f_asks afOf a_asks
  show Ok ((sSeq (sAsg _ (gN 1)) _ [some (.ref c), none, none, none, none, none] m).f) _
  rw [v_seq, s_asg (e_call (a_c rfl rfl) e1), v_nx, v_seq]
  show Ok ((O.seq (sAsg _ (gN 2) [some (.ref c), some (.ref kw), none, none, none, none] m1) _).f) _
  rw [s_asg (m1 := m2) (x := .ref m1.length) (e_call rfl (by rw [mk0, hm2])), v_nx, v_seq]
  show Ok ((O.seq (sFor _ (gN 3) wAsk [some (.ref c), some (.ref kw), some (.ref m1.length), none, none, none] m2) _).f) _
  rw [w_for, hit, v_o]
  show Ok ((O.seq (forL (gN 3) wAsk [(kr, .lst (fs.map tI))] (fs.map tI) [some (.ref c), some (.ref kw), some (.ref m1.length), none, none, none] m3) _).f) _
  rw [w1, v_nx, s_ret (e_call (a_c rfl rfl) (v_tupL w3)), v_frt]
  exact ⟨rfl, fun i cc e => w2 _ _ (p3 _ _ (p2 _ _ (p1 _ _ e))) (by have := (List.getElem?_eq_some_iff.mp e).1; simp; omega)⟩
end
/-! ### the law's own -/
noncomputable def wLask : AS :=
    (sSeq (sAsg (eCall bLen (aCons (eLc (iE (eVar 4)) (gN 6) (tAn (tVal (eOp dEq (eOp dMod (eCall bInt (aCons (eVar 6) (aNil))) (eC (.int 2))) (eC (.int 0)))) (tVal (eOp dEq (eOp dMod (eCall bInt (aCons (eOp dIx (eVar 2) (eVar 6)) (aNil))) (eC (.int 2))) (eC (.int 0))))) (eVar 6) [6]) (aNil))) (gN 5))
    (sExp (eMt isL mAppend (eVar 3) (aCons (eIf (tVal (eOp dIn (eVar 1) (eVar 4))) (eOp dAdd (eVar 5) (eC (.int 1))) (eOp dSub (eVar 5) (eC (.int 1)))) (aNil)))))
theorem eq0 (n : Nat) (m : Mem) : dEq (I n) (.int 0) m = .ok (.bl (decide (n = 0))) m := w_eqII n 0 m
theorem w_lask1 {rs : List (List Nat)} {ka kn o : Nat} {kvs : List (Key × D)} {m : Mem} {acc : List D} {R0 : D} {x5 x6 : Option D} {f : List Nat} (hA : AfterD rs kvs) (ha : m[ka]? = some (.dic kvs)) (hk : m[kn]? = some (.lst acc)) (hf : ∀ e ∈ f, e ∈ rs.flatten) (hfl : f.length < 1000) (hal : acc.length < 1000) :
    ∃ y5 m', wLask [some R0, some (I o), some (.ref ka), some (.ref kn), some (tI f), x5, x6] m = .nx [some R0, some (I o), some (.ref ka), some (.ref kn), some (tI f), y5, x6] m' ∧ Kp [kn] m m' ∧ m'[kn]? = some (.lst (acc ++ [asD (Ch.nxt rs) o f])) := by
  have e1 := lc_eq (it := iE (eVar 4)) (tg := gN 6) (tt := (tAn (tVal (eOp dEq (eOp dMod (eCall bInt (aCons (eVar 6) (aNil))) (eC (.int 2))) (eC (.int 0)))) (tVal (eOp dEq (eOp dMod (eCall bInt (aCons (eOp dIx (eVar 2) (eVar 6)) (aNil))) (eC (.int 2))) (eC (.int 0)))))) (el := eVar 6) (vs := [6]) (e := [some R0, some (I o), some (.ref ka), some (.ref kn), some (tI f), x5, x6]) (m := m) I f (Ch.isFork (Ch.nxt rs)) I (show iE (eVar 4) [some R0, some (I o), some (.ref ka), some (.ref kn), some (tI f), x5, x6] m = .ok (f.map I, []) m from rfl) rfl (fun acc => gd_nil) (by omega) (fun x hx acc => by
    refine ⟨[some R0, some (I o), some (.ref ka), some (.ref kn), some (tI f), x5, some (I x)], rfl, ?_, fun _ => rfl⟩
    have hx2 : dIx (.ref ka) (I x) (m ++ [Cell.lst acc]) = .ok (I (Ch.nxt rs x)) (m ++ [Cell.lst acc]) := v_getD2 (Pre.add _ _ ha) (hA x (hf x hx))
    have u1 : tVal (eOp dEq (eOp dMod (eCall bInt (aCons (eVar 6) (aNil))) (eC (.int 2))) (eC (.int 0))) [some R0, some (I o), some (.ref ka), some (.ref kn), some (tI f), x5, some (I x)] (m ++ [Cell.lst acc]) = .ok (Ch.ev x) (m ++ [Cell.lst acc]) := t_v (e_op (e_op (e_call (a_c rfl rfl) rfl) rfl (v_mod2 _ _)) rfl (eq0 _ _))
    have u2 : tVal (eOp dEq (eOp dMod (eCall bInt (aCons (eOp dIx (eVar 2) (eVar 6)) (aNil))) (eC (.int 2))) (eC (.int 0))) [some R0, some (I o), some (.ref ka), some (.ref kn), some (tI f), x5, some (I x)] (m ++ [Cell.lst acc]) = .ok (Ch.ev (Ch.nxt rs x)) (m ++ [Cell.lst acc]) := t_v (e_op (e_op (e_call (a_c (e_op rfl rfl hx2) rfl) rfl) rfl (v_mod2 _ _)) rfl (eq0 _ _))
    unfold Ch.isFork
    cases h : Ch.ev x with
    | true => rw [h] at u1; rw [t_anT u1 u2]; rfl
    | false => rw [h] at u1; rw [t_anF u1]; rfl)
  obtain ⟨m1, hm1⟩ : ∃ m1, m1 = m ++ [Cell.lst ((f.filter (Ch.isFork (Ch.nxt rs))).map I)] := ⟨_, rfl⟩
  rw [← hm1] at e1
  have p1 : Pre m m1 := by rw [hm1]; exact .add
  have q1 : m1[m.length]? = some (.lst ((f.filter (Ch.isFork (Ch.nxt rs))).map I)) := by rw [hm1]; exact new_get
  have hlen : bLen [.ref m.length] m1 = .ok (I (f.countP (Ch.isFork (Ch.nxt rs)))) m1 := by
    rw [v_lenL q1, List.length_map, List.countP_eq_length_filter]; rfl
  have hk1 := p1 _ _ hk
  obtain ⟨n, hn⟩ : ∃ n, n = f.countP (Ch.isFork (Ch.nxt rs)) := ⟨_, rfl⟩
  rw [← hn] at hlen
  have happ : ∀ d, mAppend (.ref kn) [d] m1 = .ok .non (m1.set kn (.lst (acc ++ [d]))) := fun d => v_append hk1 (by omega)
  have t1 : tVal (eOp dIn (eVar 1) (eVar 4)) [some R0, some (I o), some (.ref ka), some (.ref kn), some (tI f), some (I n), x6] m1 = .ok (decide (o ∈ f)) m1 := t_v (e_op rfl rfl (v_inT _ _ _))
  have ev : eIf (tVal (eOp dIn (eVar 1) (eVar 4))) (eOp dAdd (eVar 5) (eC (.int 1))) (eOp dSub (eVar 5) (eC (.int 1))) [some R0, some (I o), some (.ref ka), some (.ref kn), some (tI f), some (I n), x6] m1 = .ok (asD (Ch.nxt rs) o f) m1 := by
    by_cases ho : o ∈ f
    · rw [decide_eq_true ho] at t1
      have hd : asD (Ch.nxt rs) o f = .int ((n : Int) + 1) := by unfold asD asI; rw [if_pos ho, hn]
      rw [e_ifT t1, e_op rfl rfl rfl, hd]; rfl
    · rw [decide_eq_false ho] at t1
      have hd : asD (Ch.nxt rs) o f = .int ((n : Int) - 1) := by unfold asD asI; rw [if_neg ho, hn]
      rw [e_ifF t1, e_op rfl rfl rfl, hd]; rfl
  refine ⟨some (I n), m1.set kn (.lst (acc ++ [asD (Ch.nxt rs) o f])), ?_, (Kp.pre p1).trans (Kp.set (by simp)), get_set hk1⟩
  unfold wLask
  rw [v_seq, s_asg (e_call (a_c e1 rfl) hlen), v_nx]
  exact s_exp (e_mt rfl (w_isL hk1) (a_c ev rfl) (happ _))
theorem w_lasks {m : Mem} {N o : Nat} {rs rims : List (List Nat)} {d0 d1 d3 d4 : D} (F : Ch.Flat rs rims N) (hN : N ≤ 200) :
    Ok (f_law_asks [.tup [d0, d1, .tup (rs.map tI), d3, d4], I o] m) fun d m' => ∃ k, d = .ref k ∧ Pre m m' ∧ m'[k]? = some (.lst ((rimsX rims (List.range N)).map (asD (Ch.nxt rs) o))) := by
  obtain ⟨R0, hR⟩ : ∃ R0, R0 = D.tup [d0, d1, .tup (rs.map tI), d3, d4] := ⟨_, rfl⟩
  rw [← hR]
  have hx : ∀ m, dIx R0 (.int 2) m = .ok (.tup (rs.map tI)) m := fun m => by rw [hR]; exact v_ixT (atI_nat (i := 2) rfl)
  obtain ⟨_, m1, e1, ka, kvs, rfl, p1, q1, hA⟩ := ok_ex (w_after (m := m) F hN)
  obtain ⟨m2, hm2⟩ : ∃ m2, m2 = m1 ++ [Cell.lst []] := ⟨_, rfl⟩
  have p2 : Pre m1 m2 := by rw [hm2]; exact .add
  have q2 : m2[m1.length]? = some (.lst []) := by rw [hm2]; exact new_get
  obtain ⟨_, m3, e3, kr, rfl, p3, l3, q3⟩ := ok_ex (w_lrims (m := m2) F hN)
  have A := rimsX_perm F hN
  have hl2 : m2.length = m1.length + 1 := by rw [hm2]; simp
  have hka : ka < m1.length := (List.getElem?_eq_some_iff.mp q1).1
  have hlm := p1.len
  obtain ⟨fs, hfs⟩ : ∃ fs, fs = rimsX rims (List.range N) := ⟨_, rfl⟩
  rw [← hfs] at q3 A ⊢
  have hfl : fs.length ≤ 200 := by rw [A.len]; have := rims_len F; omega
  have hff : ∀ f ∈ fs, f.length < 1000 := fun f hf => by
    obtain ⟨a, b, hab⟩ := Ch.mem_cut hf
    have := A.perm.length_eq
    rw [hab, List.length_range] at this
    simp [List.length_flatten] at this
    omega
  have loop : ∀ (a b : List (List Nat)) (m' : Mem) (x4 x5 x6 : Option D), fs = a ++ b → Kp [m1.length] m3 m' → m'[m1.length]? = some (.lst (a.map (asD (Ch.nxt rs) o))) →
      ∃ y4 y5 y6 m'', forL (gN 4) wLask [(kr, .lst (fs.map tI))] (b.map tI) [some R0, some (I o), some (.ref ka), some (.ref m1.length), x4, x5, x6] m' = .nx [some R0, some (I o), some (.ref ka), some (.ref m1.length), y4, y5, y6] m'' ∧ Kp [m1.length] m3 m'' ∧ m''[m1.length]? = some (.lst (fs.map (asD (Ch.nxt rs) o))) := by
    intro a b
    induction b generalizing a with
    | nil =>
      intro m' x4 x5 x6 hab hk hm
      have : a = fs := by simpa using hab.symm
      subst this
      exact ⟨x4, x5, x6, m', by rw [List.map_nil, forL_nil (gd_one (hk _ _ q3 (by simp; omega)))], hk, hm⟩
    | cons f b ih =>
      intro m' x4 x5 x6 hab hk hm
      have hfm : f ∈ fs := by rw [hab]; simp
      have hal : a.length < 1000 := by have := congrArg List.length hab; simp at this; omega
      have ha3 := hk _ _ (p3 _ _ (p2 _ _ q1)) (by simp; omega)
      obtain ⟨y5, m4, w1, w2, w3⟩ := w_lask1 (o := o) (kn := m1.length) (R0 := R0) (x5 := x5) (x6 := x6) (f := f) hA ha3 hm (fun e he => F.rN.mem_iff.mpr (List.mem_range.mpr (A.lt f hfm e he))) (hff f hfm) (by simpa using hal)
      obtain ⟨z4, z5, z6, m5, u1, u2, u3⟩ := ih (a ++ [f]) m4 (some (tI f)) y5 x6 (by simp [hab]) (hk.trans w2) (by rw [w3]; simp)
      refine ⟨z4, z5, z6, m5, ?_, u2, u3⟩
      rw [List.map_cons, forL_nx (e2 := [some R0, some (I o), some (.ref ka), some (.ref m1.length), some (tI f), x5, x6]) (gd_one (hk _ _ q3 (by simp; omega))) rfl w1]
      exact u1
  obtain ⟨y4, y5, y6, m4, w1, w2, w3⟩ := loop [] fs m3 none none none rfl .refl (p3 _ _ q2)
  have hit : iE (eCall f_law_rims (aCons (eOp dIx (eVar 0) (eC (.int 2))) (aNil))) [some R0, some (I o), some (.ref ka), some (.ref m1.length), none, none, none] m2 = .ok (fs.map tI, [(kr, .lst (fs.map tI))]) m3 := by
    rw [w_iE, e_call (a_c (e_op rfl rfl (hx _)) rfl) e3, v_bind, v_itL q3]
  unfold f_law_asks afOf a_law_asks
  show Ok ((sSeq (sAsg _ (gN 2)) _ [some R0, some (I o), none, none, none, none, none] m).f) _
  rw [v_seq, s_asg (e_call (a_c (e_op rfl rfl (hx _)) rfl) e1), v_nx, v_seq]
  show Ok ((O.seq (sAsg _ (gN 3) [some R0, some (I o), some (.ref ka), none, none, none, none] m1) _).f) _
  rw [s_asg (m1 := m2) (x := .ref m1.length) (e_call rfl (by rw [mk0, hm2])), v_nx, v_seq]
  show Ok ((O.seq (sFor _ (gN 4) wLask [some R0, some (I o), some (.ref ka), some (.ref m1.length), none, none, none] m2) _).f) _
  rw [w_for, hit, v_o]
  show Ok ((O.seq (forL (gN 4) wLask [(kr, .lst (fs.map tI))] (fs.map tI) [some R0, some (I o), some (.ref ka), some (.ref m1.length), none, none, none] m3) _).f) _
  rw [w1, v_nx, s_ret rfl, v_frt]
  exact ⟨m1.length, rfl, fun i cc e => w2 _ _ (p3 _ _ (p2 _ _ (p1 _ _ e))) (by have := (List.getElem?_eq_some_iff.mp e).1; simp; omega), w3⟩
/-- the outer rim is told by its least angle -/
theorem lb_in {fs : List (List Nat)} (hn : fs.flatten.Nodup) (hne : ∀ f ∈ fs, f ≠ []) {o : Nat} (ho : ∃ f ∈ fs, o ∈ f) {f : List Nat} (hf : f ∈ fs) : lbX fs o ∈ f ↔ o ∈ f := by
  unfold lbX
  cases h : fs.find? (fun f => decide (o ∈ f)) with
  | none =>
    obtain ⟨g, hg, hog⟩ := ho
    exact absurd (List.find?_eq_none.mp h g hg) (by simp [hog])
  | some g =>
    have h1 : o ∈ g := by simpa using List.find?_some h
    have h2 := List.mem_of_find?_eq_some h
    have h3 : g.headD 0 ∈ g := by
      cases g with
      | nil => exact absurd rfl (hne _ h2)
      | cons x g => simp
    dsimp only
    constructor
    · intro z
      have : f = g := Ch.flat_inj hn hf h2 z h3
      rw [this]; exact h1
    · intro z
      have : f = g := Ch.flat_inj hn hf h2 z h1
      rw [this]; exact h3
end Cl
set_option Elab.async false
set_option linter.all false
set_option maxRecDepth 100000
namespace Cl
open PySem PySem.Spec PyProof.Rows L2 Ab
/-! # all angles, all arrows, all rims -/
theorem flat_beg {arr : List (Nat × Nat)} {rs rims : List (List Nat)} {N : Nat} (F : Ch.Flat rs rims N) : Ch.Flat (rs.map begL) rims N :=
  F.turn (by simp) fun i r r' e1 e2 => by
    rw [List.getElem?_map, e1] at e2
    cases e2
    exact begL_turn r
theorem rimsX_turn {rims : List (List Nat)} {es : List Nat} (he : ∀ e ∈ es, e ∈ rims.flatten) : ∀ f ∈ rimsX rims es, ∃ q ∈ rims, Ch.Turn q f := by
  have orbT : ∀ e ∈ rims.flatten, ∃ q ∈ rims, Ch.Turn q (orb rims e) := fun e h => by
    unfold orb
    cases hf : rims.find? (fun q => decide (e ∈ q)) with
    | none =>
      obtain ⟨q, hq, hx⟩ := List.mem_flatten.mp h
      exact absurd (List.find?_eq_none.mp hf q hq) (by simp [hx])
    | some q => exact ⟨q, List.mem_of_find?_eq_some hf, q.take (q.idxOf e), q.drop (q.idxOf e), (List.take_append_drop _ _).symm, rfl⟩
  have : ∀ (es : List Nat) (acc : List (List Nat)), (∀ e ∈ es, e ∈ rims.flatten) → (∀ f ∈ acc, ∃ q ∈ rims, Ch.Turn q f) → ∀ f ∈ es.foldl (fun acc e => if e ∈ acc.flatten then acc else acc ++ [orb rims e]) acc, ∃ q ∈ rims, Ch.Turn q f := by
    intro es
    induction es with
    | nil => intro acc _ ha; exact ha
    | cons e es ih =>
      intro acc he ha
      rw [List.foldl_cons]
      refine ih _ (fun x hx => he x (List.mem_cons_of_mem _ hx)) ?_
      split
      · exact ha
      · intro f hf
        rcases List.mem_append.mp hf with z | z
        · exact ha f z
        · rw [List.mem_singleton.mp z]; exact orbT e (he e List.mem_cons_self)
  exact this es [] he fun f hf => by cases hf
theorem cntS {k : Nat} {m : Mem} {ws : List Str} {w : Str} (h : m[k]? = some (.lst (ws.map D.str))) (hw : ∀ x ∈ ws, PyData.strOk x = true) (h1 : PyData.strOk w = true) : mCount (.ref k) [.str w] m = .ok (I (ws.countP fun x => decide (x = w))) m := by
  unfold mCount
  dsimp only
  have e1 : toP m DEEP (.ref k) = some (.list (ws.map PyData.str)) := by
    have hS : ∀ l : List Str, (l.map D.str).mapM (toP m 69) = some (l.map PyData.str) := by
      intro l
      induction l with
      | nil => rfl
      | cons x l ih =>
        rw [List.map_cons, List.mapM_cons, ih]
        rfl
    show (match m[k]? with | some (.lst ds) => (ds.mapM (toP m 69)).map PyData.list | some (.rol ds) => (ds.mapM (toP m 69)).map PyData.list | _ => none) = _
    rw [h]
    dsimp only
    rw [hS]; rfl
  rw [e1, show toP m DEEP (.str w) = some (.str w) from rfl]
  dsimp only
  have hc : ∀ l : List Str, (∀ x ∈ l, PyData.strOk x = true) → PyData.canLayAll0 (l.map PyData.str) = true := by
    intro l
    induction l with
    | nil => intro _; simp [PyData.canLayAll0]
    | cons x l ih =>
      intro hx
      have := ih fun y hy => hx y (List.mem_cons_of_mem _ hy)
      simp [PyData.canLayAll0, PyData.canLay0, this, hx x List.mem_cons_self]
  have hd : ∀ l : List Str, PyData.depthAll (l.map PyData.str) = 0 := by
    intro l
    induction l with
    | nil => simp [PyData.depthAll]
    | cons x l ih => simp [PyData.depthAll, PyData.depth, ih]
  have hs : SeqAt.shaped (.list (ws.map PyData.str)) = true := by simp [SeqAt.shaped, PyData.canLay0, PyData.depth, hc ws hw, hd]
  rw [if_pos ⟨hs, canS1 w h1⟩, List.countP_map]
  have : (fun z => PyData.eqv z (.str w)) ∘ PyData.str = fun x => decide (x = w) := by
    funext x; exact eqvStr x w
  rw [this]; rfl
section
variable {arr : List (Nat × Nat)} {rs rims fs : List (List Nat)} {P o' c ka kb : Nat} {ps : List D} {kvs kvs2 : List (Key × D)} {R0 dd : D}
/-- what is known while the angles are looked at -/
structure Kn (m : Mem) (arr : List (Nat × Nat)) (rs rims fs : List (List Nat)) (P o' c ka kb : Nat) (ps : List D) (kvs kvs2 : List (Key × D)) : Prop where
  F : Ch.Flat rs rims (2 * arr.length)
  F' : Ch.Flat (rs.map begL) rims (2 * arr.length)
  hn : arr.length ≤ 100
  hfs : fs = rimsX rims (List.range (2 * arr.length))
  A : AllRims rims fs (2 * arr.length)
  C : ChI c m P arr (rs.map begL) o' ps
  ha : m[ka]? = some (.dic kvs)
  hb : m[kb]? = some (.dic kvs2)
  hA : AfterD rs kvs
  hB : NumsD fs kvs2
theorem Kn.pre {m m' : Mem} (K : Kn m arr rs rims fs P o' c ka kb ps kvs kvs2) (p : Pre m m') : Kn m' arr rs rims fs P o' c ka kb ps kvs kvs2 := ⟨K.F, K.F', K.hn, K.hfs, K.A, K.C.pre p, p _ _ K.ha, p _ _ K.hb, K.hA, K.hB⟩
theorem nxt_beg {N : Nat} (F : Ch.Flat rs rims N) {x : Nat} (hx : x < N) : Ch.nxt (rs.map begL) x = Ch.nxt rs x := by
  have hm : x ∈ rs.flatten := F.rN.mem_iff.mpr (List.mem_range.mpr hx)
  have hP := Ch.P_nxt F.nd hm
  have hP' : Ch.P (rs.map begL) x (Ch.nxt rs x) := Ch.P_turn (by simp) (fun i r r' e1 e2 => by
    rw [List.getElem?_map, e1] at e2
    cases e2
    exact begL_turn r) hP
  have := flat_beg (arr := []) F
  exact Ch.nxt_eq this.nd hP'
abbrev E9b (R0 : D) (c : Nat) (dd : D) (y3 y4 y5 y6 y7 y8 : Option D) : Env' := [some R0, some (.ref c), some dd, y3, y4, y5, y6, y7, y8]
noncomputable def wAng : AS := sIf (tNt (tVal (eCall f_law_is_4 (aCons (eCall mkLst (aCons (eCall f_rim_of (aCons (eVar 1) (aCons (eVar 5) (aNil)))) (aCons (eCall f_word_at (aCons (eVar 1) (aCons (eVar 5) (aNil)))) (aNil)))) (aCons (eCall mkLst (aCons (eOp dIx (eVar 4) (eVar 5)) (aCons (eCall f_law_word (aCons (eVar 3) (aCons (eVar 5) (aNil)))) (aNil)))) (aNil))))))
    (sRet (eC (.bl false)))
    (sSkip)
theorem w_ang {m : Mem} {y6 y7 y8 : Option D} (K : Kn m arr rs rims fs P o' c ka kb ps kvs kvs2) {x : Nat} (hx : x < 2 * arr.length) :
    ∃ m', wAng (E9b R0 c dd (some (.ref ka)) (some (.ref kb)) (some (I x)) y6 y7 y8) m = .nx (E9b R0 c dd (some (.ref ka)) (some (.ref kb)) (some (I x)) y6 y7 y8) m' ∧ Pre m m' := by
  obtain ⟨_, m1, e1, rfl, p1⟩ := ok_ex (w_rim_of K.C K.F' K.hn hx)
  have K1 := K.pre p1
  obtain ⟨d2, m2, e2, h2, p2⟩ := ok_ex (w_word_at K1.C K.F' K.hn hx)
  rw [wdsX_get K.F' hx, nxt_beg K.F hx] at h2
  cases h2
  have hxf : x ∈ fs.flatten := K.A.perm.mem_iff.mpr (List.mem_range.mpr hx)
  have hxr : x ∈ rs.flatten := K.F.rN.mem_iff.mpr (List.mem_range.mpr hx)
  rw [← K.hfs] at e1
  obtain ⟨a1, ha1⟩ : ∃ a1, a1 = I (numOf fs x) := ⟨_, rfl⟩
  obtain ⟨a2, ha2⟩ : ∃ a2, a2 = D.str (wordX x (Ch.nxt rs x)) := ⟨_, rfl⟩
  rw [← ha1] at e1
  rw [← ha2] at e2
  obtain ⟨m3, hm3⟩ : ∃ m3, m3 = m2 ++ [Cell.lst [a1, a2]] := ⟨_, rfl⟩
  have p3 : Pre m2 m3 := by rw [hm3]; exact .add
  have q3 : m3[m2.length]? = some (.lst [a1, a2]) := by rw [hm3]; exact new_get
  have K3 := ((K.pre p1).pre p2).pre p3
  obtain ⟨m4, e4, p4⟩ := w_lword K3.ha (K.hA x hxr)
  rw [← ha2] at e4
  obtain ⟨m5, hm5⟩ : ∃ m5, m5 = m4 ++ [Cell.lst [a1, a2]] := ⟨_, rfl⟩
  have p5 : Pre m4 m5 := by rw [hm5]; exact .add
  have q5 : m5[m4.length]? = some (.lst [a1, a2]) := by rw [hm5]; exact new_get
  have hd : dIx (.ref kb) (I x) m3 = .ok a1 m3 := by rw [ha1]; exact v_getD2 K3.hb (K.hB x hxf)
  have hal : Al f_law_is_4 (.ref m2.length) (.ref m4.length) m5 := by
    rw [is4]
    refine al_row (t := "list") (.inr ⟨_, rfl, p5 _ _ (p4 _ _ q3), rfl⟩) (.inr ⟨_, rfl, q5, rfl⟩) rfl (by simp) (fun i a b ha hb => ?_)
    rw [is3]
    match i, ha, hb with
    | 0, ha, hb => cases ha; cases hb; rw [ha1]; exact al_I
    | 1, ha, hb => cases ha; cases hb; rw [ha2]; exact al_str (ok_word _ _)
    | i + 2, ha, hb => simp at ha
  obtain ⟨_, m6, e6, rfl, p6⟩ := ok_ex (hal m5 .refl)
  refine ⟨m6, ?_, ((((p1.trans p2).trans p3).trans p4).trans p5).trans p6⟩
  unfold wAng
  have t1 : tVal (eCall f_law_is_4 (aCons (eCall mkLst (aCons (eCall f_rim_of (aCons (eVar 1) (aCons (eVar 5) (aNil)))) (aCons (eCall f_word_at (aCons (eVar 1) (aCons (eVar 5) (aNil)))) (aNil)))) (aCons (eCall mkLst (aCons (eOp dIx (eVar 4) (eVar 5)) (aCons (eCall f_law_word (aCons (eVar 3) (aCons (eVar 5) (aNil)))) (aNil)))) (aNil)))) (E9b R0 c dd (some (.ref ka)) (some (.ref kb)) (some (I x)) y6 y7 y8) m = .ok true m6 :=
    t_v (e_call (a_c (e_call (a_c (e_call (a_c rfl (a_c rfl rfl)) e1) (a_c (e_call (a_c rfl (a_c rfl rfl)) e2) rfl)) (show mkLst [a1, a2] m2 = .ok (.ref m2.length) m3 by rw [mkL2, hm3])) (a_c (e_call (a_c (e_op rfl rfl hd) (a_c (e_call (a_c rfl (a_c rfl rfl)) e4) rfl)) (show mkLst [a1, a2] m4 = .ok (.ref m4.length) m5 by rw [mkL2, hm5])) rfl)) e6)
  rw [v_sifF (t_nt t1), v_skip]
noncomputable def wArr : AS := sIf (tNt (tVal (eCall f_law_is_4 (aCons (eCall f_sides (aCons (eVar 1) (aCons (eVar 6) (aNil)))) (aCons (eCall mkTup (aCons (eOp dIx (eVar 4) (eOp dAdd (eOp dMul (eC (.int 2)) (eVar 6)) (eC (.int 1)))) (aCons (eOp dIx (eVar 4) (eOp dMul (eC (.int 2)) (eVar 6))) (aNil)))) (aNil))))))
    (sRet (eC (.bl false)))
    (sSkip)
theorem w_arr {m : Mem} {y5 y7 y8 : Option D} (K : Kn m arr rs rims fs P o' c ka kb ps kvs kvs2) {x : Nat} (hx : x < arr.length) :
    ∃ m', wArr (E9b R0 c dd (some (.ref ka)) (some (.ref kb)) y5 (some (I x)) y7 y8) m = .nx (E9b R0 c dd (some (.ref ka)) (some (.ref kb)) y5 (some (I x)) y7 y8) m' ∧ Pre m m' := by
  obtain ⟨_, m1, e1, rfl, p1⟩ := ok_ex (w_sides K.C K.F' K.hn hx)
  rw [← K.hfs] at e1
  have K1 := K.pre p1
  have hin : ∀ z, z < 2 * arr.length → z ∈ fs.flatten := fun z hz => K.A.perm.mem_iff.mpr (List.mem_range.mpr hz)
  have d1 : dIx (.ref kb) (.int (2 * (x : Int) + 1)) m1 = .ok (I (numOf fs (2 * x + 1))) m1 := by
    have := v_getD2 K1.hb (K.hB (2 * x + 1) (hin _ (by omega)))
    rw [show (I (2 * x + 1)) = D.int (2 * (x : Int) + 1) by unfold I; congr 1] at this
    exact this
  have d2 : dIx (.ref kb) (.int (2 * (x : Int))) m1 = .ok (I (numOf fs (2 * x))) m1 := by
    have := v_getD2 K1.hb (K.hB (2 * x) (hin _ (by omega)))
    rw [show (I (2 * x)) = D.int (2 * (x : Int)) by unfold I; congr 1] at this
    exact this
  have hal : Al f_law_is_4 (.tup [I (numOf fs (2 * x + 1)), I (numOf fs (2 * x))]) (.tup [I (numOf fs (2 * x + 1)), I (numOf fs (2 * x))]) m1 := by
    rw [is4]
    refine al_row (t := "tuple") (.inl ⟨rfl, rfl⟩) (.inl ⟨rfl, rfl⟩) rfl (by simp) (fun i a b ha hb => ?_)
    rw [is3]
    match i, ha, hb with
    | 0, ha, hb => cases ha; cases hb; exact al_I
    | 1, ha, hb => cases ha; cases hb; exact al_I
    | i + 2, ha, hb => simp at ha
  obtain ⟨_, m6, e6, rfl, p6⟩ := ok_ex (hal m1 .refl)
  refine ⟨m6, ?_, p1.trans p6⟩
  unfold wArr
  rw [v_sifF (t_nt (t_v (e_call (a_c (e_call (a_c rfl (a_c rfl rfl)) e1) (a_c (e_call (a_c (e_op rfl (e_op (e_op rfl rfl (mul2 _ _)) rfl rfl) d1) (a_c (e_op rfl (e_op rfl rfl (mul2 _ _)) d2) rfl)) mk2) rfl)) e6))), v_skip]
noncomputable def wRim : AS :=
    (sSeq (sAsg (eLc (iE (eVar 7)) (gN 5) (tYesA) (eCall f_word_at (aCons (eVar 1) (aCons (eVar 5) (aNil)))) [5]) (gN 8))
    (sIf (tVal (eOp dNe (eMt isL mCount (eVar 8) (aCons (eC (.str "fork")) (aNil))) (eMt isL mCount (eVar 8) (aCons (eC (.str "meet")) (aNil)))))
    (sRet (eC (.bl false)))
    (sSkip)))
theorem w_rimW {m : Mem} {y5 y6 y8 : Option D} (K : Kn m arr rs rims fs P o' c ka kb ps kvs kvs2) {f : List Nat} (hf : f ∈ fs) (hl : f.length < 1000) :
    ∃ y8' m', wRim (E9b R0 c dd (some (.ref ka)) (some (.ref kb)) y5 y6 (some (tI f)) y8) m = .nx (E9b R0 c dd (some (.ref ka)) (some (.ref kb)) y5 y6 (some (tI f)) y8') m' ∧ Pre m m' := by
  obtain ⟨m', w1, w2, w3⟩ := lc_grow (it := iE (eVar 7)) (tg := gN 5) (tt := tYesA) (el := eCall f_word_at (aCons (eVar 1) (aCons (eVar 5) (aNil)))) (vs := [5]) (e := E9b R0 c dd (some (.ref ka)) (some (.ref kb)) y5 y6 (some (tI f)) y8) (m := m) I f (fun _ => true) (fun x => D.str (wordX x (Ch.nxt rs x))) (show iE (eVar 7) (E9b R0 c dd (some (.ref ka)) (some (.ref kb)) y5 y6 (some (tI f)) y8) m = .ok (f.map I, []) m from rfl) rfl gd_nil (by omega) (fun x hx m1 p1 => by
    have hxN := K.A.lt f hf x hx
    obtain ⟨d2, m2, e2, h2, p2⟩ := ok_ex (w_word_at (K.pre p1).C K.F' K.hn hxN)
    rw [wdsX_get K.F' hxN, nxt_beg K.F hxN] at h2
    cases h2
    exact ⟨E9b R0 c dd (some (.ref ka)) (some (.ref kb)) (some (I x)) y6 (some (tI f)) y8, m1, rfl, rfl, .refl, fun _ => ⟨m2, e_call (a_c rfl (a_c rfl rfl)) e2, p2⟩⟩)
  rw [filt_t] at w3
  have hws : f.map (fun x => D.str (wordX x (Ch.nxt rs x))) = (f.map fun x => wordX x (Ch.nxt rs x)).map D.str := by rw [List.map_map]; rfl
  rw [hws] at w3
  have hok : ∀ x ∈ f.map (fun x => wordX x (Ch.nxt rs x)), PyData.strOk x = true := fun x hx => by
    obtain ⟨y, _, rfl⟩ := List.mem_map.mp hx
    exact ok_word _ _
  have c1 := cntS w3 hok ok_fo
  have c2 := cntS w3 hok ok_me
  have n1 : (f.map fun x => wordX x (Ch.nxt rs x)).countP (fun x => decide (x = ("fork" : Str))) = f.countP (Ch.isFork (Ch.nxt rs)) := by
    rw [List.countP_map]; congr 1; funext x; exact word_fo _ x
  have n2 : (f.map fun x => wordX x (Ch.nxt rs x)).countP (fun x => decide (x = ("meet" : Str))) = f.countP (Ch.isMeet (Ch.nxt rs)) := by
    rw [List.countP_map]; congr 1; funext x; exact word_me _ x
  rw [n1] at c1
  rw [n2] at c2
  obtain ⟨q, hq, ht⟩ := rimsX_turn (rims := rims) (es := List.range (2 * arr.length)) (fun e he => K.F.mN.mem_iff.mpr he) f (by rw [← K.hfs]; exact hf)
  have heq := Ch.rim_forks K.F hq ht (nx := Ch.nxt rs) (fun x y h => Ch.nxt_eq K.F.nd h)
  rw [← heq] at c2
  refine ⟨some (.ref m.length), m', ?_, w2⟩
  unfold wRim
  rw [v_seq, s_asg w1, v_nx]
  have t1 : tVal (eOp dNe (eMt isL mCount (eVar 8) (aCons (eC (.str "fork")) (aNil))) (eMt isL mCount (eVar 8) (aCons (eC (.str "meet")) (aNil)))) (E9b R0 c dd (some (.ref ka)) (some (.ref kb)) y5 y6 (some (tI f)) (some (.ref m.length))) m' = .ok false m' :=
    t_v (e_op (e_mt rfl (w_isL w3) (a_c rfl rfl) c1) (e_mt rfl (w_isL w3) (a_c rfl rfl) c2) (show dNe (I _) (I _) m' = .ok (.bl false) m' by rw [w_neII]; simp))
  show sIf _ _ _ (E9b R0 c dd (some (.ref ka)) (some (.ref kb)) y5 y6 (some (tI f)) (some (.ref m.length))) m' = _
  rw [v_sifF t1, v_skip]
end
end Cl
set_option Elab.async false
set_option linter.all false
set_option maxRecDepth 100000
namespace Cl
open PySem PySem.Spec PyProof.Rows L2 Ab
section
variable {arr : List (Nat × Nat)} {rs rims fs : List (List Nat)} {P o' c ka kb kd : Nat} {ps : List D} {kvs kvs2 : List (Key × D)} {d0 d3 d4 : D}
theorem w_angL {R0 dd : D} {y6 y7 y8 : Option D} : ∀ (l : List Nat) (m : Mem) (y5 : Option D), Kn m arr rs rims fs P o' c ka kb ps kvs kvs2 → (∀ x ∈ l, x < 2 * arr.length) →
    ∃ z5 m', forL (gN 5) wAng [] (l.map I) (E9b R0 c dd (some (.ref ka)) (some (.ref kb)) y5 y6 y7 y8) m = .nx (E9b R0 c dd (some (.ref ka)) (some (.ref kb)) z5 y6 y7 y8) m' ∧ Pre m m'
  | [], m, y5, K, _ => ⟨y5, m, by rw [List.map_nil, forL_nil gd_nil], .refl⟩
  | x :: l, m, y5, K, h => by
    obtain ⟨m1, w1, p1⟩ := w_ang (R0 := R0) (dd := dd) (y6 := y6) (y7 := y7) (y8 := y8) K (h x List.mem_cons_self)
    obtain ⟨z5, m2, w2, p2⟩ := w_angL (R0 := R0) (dd := dd) (y6 := y6) (y7 := y7) (y8 := y8) l m1 (some (I x)) (K.pre p1) (fun y hy => h y (List.mem_cons_of_mem _ hy))
    exact ⟨z5, m2, by rw [List.map_cons, forL_nx (e2 := E9b R0 c dd (some (.ref ka)) (some (.ref kb)) (some (I x)) y6 y7 y8) gd_nil rfl w1]; exact w2, p1.trans p2⟩
theorem w_arrL {R0 dd : D} {y5 y7 y8 : Option D} : ∀ (l : List Nat) (m : Mem) (y6 : Option D), Kn m arr rs rims fs P o' c ka kb ps kvs kvs2 → (∀ x ∈ l, x < arr.length) →
    ∃ z6 m', forL (gN 6) wArr [] (l.map I) (E9b R0 c dd (some (.ref ka)) (some (.ref kb)) y5 y6 y7 y8) m = .nx (E9b R0 c dd (some (.ref ka)) (some (.ref kb)) y5 z6 y7 y8) m' ∧ Pre m m'
  | [], m, y6, K, _ => ⟨y6, m, by rw [List.map_nil, forL_nil gd_nil], .refl⟩
  | x :: l, m, y6, K, h => by
    obtain ⟨m1, w1, p1⟩ := w_arr (R0 := R0) (dd := dd) (y5 := y5) (y7 := y7) (y8 := y8) K (h x List.mem_cons_self)
    obtain ⟨z6, m2, w2, p2⟩ := w_arrL (R0 := R0) (dd := dd) (y5 := y5) (y7 := y7) (y8 := y8) l m1 (some (I x)) (K.pre p1) (fun y hy => h y (List.mem_cons_of_mem _ hy))
    exact ⟨z6, m2, by rw [List.map_cons, forL_nx (e2 := E9b R0 c dd (some (.ref ka)) (some (.ref kb)) y5 (some (I x)) y7 y8) gd_nil rfl w1]; exact w2, p1.trans p2⟩
theorem w_rimL {R0 dd : D} {y6 : Option D} {gd : Gd} (hff : ∀ f ∈ fs, f.length < 1000) : ∀ (l : List (List Nat)) (m : Mem) (y5 y7 y8 : Option D), Kn m arr rs rims fs P o' c ka kb ps kvs kvs2 → gd.Ok m → (∀ f ∈ l, f ∈ fs) →
    ∃ z5 z7 z8 m', forL (gN 7) wRim gd (l.map tI) (E9b R0 c dd (some (.ref ka)) (some (.ref kb)) y5 y6 y7 y8) m = .nx (E9b R0 c dd (some (.ref ka)) (some (.ref kb)) z5 y6 z7 z8) m' ∧ Pre m m'
  | [], m, y5, y7, y8, K, hg, _ => ⟨y5, y7, y8, m, by rw [List.map_nil, forL_nil hg], .refl⟩
  | f :: l, m, y5, y7, y8, K, hg, h => by
    have hf := h f List.mem_cons_self
    obtain ⟨y8', m1, w1, p1⟩ := w_rimW (R0 := R0) (dd := dd) (y5 := y5) (y6 := y6) (y8 := y8) K hf (hff f hf)
    obtain ⟨z5, z7, z8, m2, w2, p2⟩ := w_rimL (R0 := R0) (dd := dd) (y6 := y6) hff l m1 y5 (some (tI f)) y8' (K.pre p1) (fun p hp => p1 _ _ (hg p hp)) (fun y hy => h y (List.mem_cons_of_mem _ hy))
    exact ⟨z5, z7, z8, m2, by rw [List.map_cons, forL_nx (e2 := E9b R0 c dd (some (.ref ka)) (some (.ref kb)) y5 y6 (some (tI f)) y8) hg rfl w1]; exact w2, p1.trans p2⟩
theorem w_angles {m : Mem} (F : Ch.Flat rs rims (2 * arr.length)) (hn : arr.length ≤ 100) (hfs : fs = rimsX rims (List.range (2 * arr.length))) (C : ChI c m P arr (rs.map begL) o' ps) (hd : m[kd]? = some (.lst (fs.map tI))) :
    Ok (f_law_angles_right [.tup [d0, .tup (arr.map pD), .tup (rs.map tI), d3, d4], .ref c, .ref kd] m) fun d m' => d = .bl true ∧ Pre m m' := by
  obtain ⟨R0, hR⟩ : ∃ R0, R0 = D.tup [d0, .tup (arr.map pD), .tup (rs.map tI), d3, d4] := ⟨_, rfl⟩
  rw [← hR]
  have hx1 : ∀ m, dIx R0 (.int 1) m = .ok (.tup (arr.map pD)) m := fun m => by rw [hR]; exact v_ixT (atI_nat (i := 1) rfl)
  have hx2 : ∀ m, dIx R0 (.int 2) m = .ok (.tup (rs.map tI)) m := fun m => by rw [hR]; exact v_ixT (atI_nat (i := 2) rfl)
  have F' := flat_beg (arr := arr) F
  have A := rimsX_perm F (by omega)
  rw [← hfs] at A
  obtain ⟨_, m1, e1, ka, kvs, rfl, p1, q1, hA⟩ := ok_ex (w_after (m := m) F (by omega))
  obtain ⟨_, m2, e2, kb, kvs2, rfl, p2, q2, hB⟩ := ok_ex (w_rnums (m := m1) F (by omega))
  rw [← hfs] at hB
  have K2 : Kn m2 arr rs rims fs P o' c ka kb ps kvs kvs2 := ⟨F, F', hn, hfs, A, (C.pre p1).pre p2, p2 _ _ q1, q2, hA, hB⟩
  have hff : ∀ f ∈ fs, f.length < 1000 := fun f hf => by
    obtain ⟨a, b, hab⟩ := Ch.mem_cut hf
    have := A.perm.length_eq
    rw [hab, List.length_range] at this
    simp [List.length_flatten] at this
    omega
  obtain ⟨z5, m3, w3, p3⟩ := w_angL (R0 := R0) (dd := .ref kd) (y6 := none) (y7 := none) (y8 := none) (List.range (2 * arr.length)) m2 none K2 (fun x hx => List.mem_range.mp hx)
  have K3 := K2.pre p3
  obtain ⟨z6, m4, w4, p4⟩ := w_arrL (R0 := R0) (dd := .ref kd) (y5 := z5) (y7 := none) (y8 := none) (List.range arr.length) m3 none K3 (fun x hx => List.mem_range.mp hx)
  have K4 := K3.pre p4
  have hd4 := p4 _ _ (p3 _ _ (p2 _ _ (p1 _ _ hd)))
  obtain ⟨u5, u7, u8, m5, w5, p5⟩ := w_rimL (R0 := R0) (dd := .ref kd) (y6 := z6) (gd := [(kd, .lst (fs.map tI))]) hff fs m4 z5 none none K4 (gd_one hd4) (fun f hf => hf)
  unfold f_law_angles_right afOf a_law_angles_right
  show Ok ((sSeq (sAsg _ (gN 3)) _ (E9b R0 c (.ref kd) none none none none none none) m).f) _
  rw [v_seq, s_asg (e_call (a_c (e_op rfl rfl (hx2 _)) rfl) e1), v_nx, v_seq]
  show Ok ((O.seq (sAsg _ (gN 4) (E9b R0 c (.ref kd) (some (.ref ka)) none none none none none) m1) _).f) _
  rw [s_asg (e_call (a_c (e_op rfl rfl (hx2 _)) rfl) e2), v_nx, v_seq]
  have hr1 : (aCons (eOp dMul (eC (.int 2)) (eCall bLen (aCons (eOp dIx (eVar 0) (eC (.int 1))) (aNil)))) (aNil)) (E9b R0 c (.ref kd) (some (.ref ka)) (some (.ref kb)) none none none none) m2 = .ok [I (2 * arr.length)] m2 := by
    refine a_c (e_op rfl (e_call (a_c (e_op rfl rfl (hx1 _)) rfl) (lenA _ _)) ?_) rfl
    rw [mul2]; simp [I]
  show Ok ((O.seq (sFor _ (gN 5) wAng (E9b R0 c (.ref kd) (some (.ref ka)) (some (.ref kb)) none none none none) m2) _).f) _
  rw [w_for, w_rng1 hr1 (by omega), v_o]
  show Ok ((O.seq (forL (gN 5) wAng [] ((List.range (2 * arr.length)).map I) (E9b R0 c (.ref kd) (some (.ref ka)) (some (.ref kb)) none none none none) m2) _).f) _
  rw [w3, v_nx, v_seq]
  have hr2 : (aCons (eCall bLen (aCons (eOp dIx (eVar 0) (eC (.int 1))) (aNil))) (aNil)) (E9b R0 c (.ref kd) (some (.ref ka)) (some (.ref kb)) z5 none none none) m3 = .ok [I arr.length] m3 := a_c (e_call (a_c (e_op rfl rfl (hx1 _)) rfl) (lenA _ _)) rfl
  show Ok ((O.seq (sFor _ (gN 6) wArr (E9b R0 c (.ref kd) (some (.ref ka)) (some (.ref kb)) z5 none none none) m3) _).f) _
  rw [w_for, w_rng1 hr2 (by omega), v_o]
  show Ok ((O.seq (forL (gN 6) wArr [] ((List.range arr.length).map I) (E9b R0 c (.ref kd) (some (.ref ka)) (some (.ref kb)) z5 none none none) m3) _).f) _
  rw [w4, v_nx, v_seq]
  have hit : iE (eVar 2) (E9b R0 c (.ref kd) (some (.ref ka)) (some (.ref kb)) z5 z6 none none) m4 = .ok (fs.map tI, [(kd, .lst (fs.map tI))]) m4 := by
    show ((eVar 2 (E9b R0 c (.ref kd) (some (.ref ka)) (some (.ref kb)) z5 z6 none none) m4).bind itD) = _
    exact v_itL hd4
  show Ok ((O.seq (sFor (iE (eVar 2)) (gN 7) wRim (E9b R0 c (.ref kd) (some (.ref ka)) (some (.ref kb)) z5 z6 none none) m4) _).f) _
  rw [w_for, hit, v_o]
  show Ok ((O.seq (forL (gN 7) wRim [(kd, .lst (fs.map tI))] (fs.map tI) (E9b R0 c (.ref kd) (some (.ref ka)) (some (.ref kb)) z5 z6 none none) m4) _).f) _
  rw [w5, v_nx, s_ret rfl, v_frt]
  exact ⟨rfl, (((p1.trans p2).trans p3).trans p4).trans p5⟩
end
end Cl
set_option Elab.async false
set_option linter.all false
set_option maxRecDepth 100000
namespace Cl
open PySem PySem.Spec PyProof.Rows L2 Ab
theorem al_rowI {r : AF} {xs : List Int} {m : Mem} (hl : xs.length < 1000) : Al (isF (isF r)) (.tup (xs.map D.int)) (.tup (xs.map D.int)) m :=
  al_row (t := "tuple") (.inl ⟨rfl, rfl⟩) (.inl ⟨rfl, rfl⟩) rfl (by simpa using hl) fun i a b ha hb => by
    rw [ha] at hb
    cases hb
    rw [List.getElem?_map] at ha
    cases h : xs[i]? with
    | none => rw [h] at ha; cases ha
    | some x => rw [h] at ha; cases ha; exact al_int
theorem tI_int (f : List Nat) : tI f = .tup ((f.map fun (n : Nat) => (n : Int)).map D.int) := by unfold tI; rw [List.map_map]; rfl
theorem al_tI {r : AF} {f : List Nat} {m : Mem} (hl : f.length < 1000) : Al (isF (isF r)) (tI f) (tI f) m := by
  rw [tI_int]; exact al_rowI (by simpa using hl)
theorem al_fs {r : AF} {fs : List (List Nat)} {m : Mem} {a b : Nat} (ha : m[a]? = some (.lst (fs.map tI))) (hb : m[b]? = some (.lst (fs.map tI))) (hl : fs.length < 1000) (hf : ∀ f ∈ fs, f.length < 1000) : Al (isF (isF (isF r))) (.ref a) (.ref b) m :=
  al_row (t := "list") (.inr ⟨_, rfl, ha, rfl⟩) (.inr ⟨_, rfl, hb, rfl⟩) rfl (by simpa using hl) fun i x y hx hy => by
    rw [hx] at hy
    cases hy
    rw [List.getElem?_map] at hx
    cases h : fs[i]? with
    | none => rw [h] at hx; cases hx
    | some f => rw [h] at hx; cases hx; exact al_tI (hf f (List.mem_of_getElem? h))
theorem isff4 : f_law_is_4 = isF (isF (isF f_law_is_1)) := rfl
theorem w_handN (ns : List Int) (hl : ns.length ≤ 63) : ∃ h m, f_law_hand [.ref 0] [.rol (ns.map D.int)] = .ok (.ref h) m ∧ HandOK h m := by
  have hz : sizeLine = 2 ^ 24 := rfl
  obtain ⟨m0, hm0⟩ : ∃ m0 : Mem, m0 = [Cell.rol (ns.map D.int)] := ⟨_, rfl⟩
  obtain ⟨m1, hm1⟩ : ∃ m1 : Mem, m1 = m0 ++ [Cell.lst ((ns.take 63).map D.int)] := ⟨_, rfl⟩
  have q1 : m1[m0.length]? = some (.lst ((ns.take 63).map D.int)) := by rw [hm1]; exact new_get
  have e1 : eSl (eVar 0) (oNone) (oSome (eC (.int 63))) [some (.ref 0), none, none] m0 = .ok (.ref m0.length) m1 := by
    have : dSl (.ref 0) none (some ((63 : Nat) : Int)) m0 = .ok (.ref m0.length) m1 := by
      unfold dSl
      rw [hm0]
      show R.ok (D.ref [Cell.rol (ns.map D.int)].length) ([Cell.rol (ns.map D.int)] ++ [.lst (Ab.cutD (ns.map D.int) none (some ((63 : Nat) : Int)))]) = _
      rw [cut_lo, hm1, hm0, ← List.map_take]
    rw [w_sl, v_v0 (z := none), v_bind, w_oN, v_bind, w_oS, v_c, v_bind]
    exact this
  obtain ⟨f, hf⟩ : ∃ f : Int → Int, f = fun i => if i < 0 then -i else i := ⟨_, rfl⟩
  have e2 := lc_eq (it := iE (eSl (eVar 0) (oNone) (oSome (eC (.int 63))))) (tg := gN 2) (tt := tYesA) (el := eCall bAbs (aCons (eCall bInt (aCons (eVar 2) (aNil))) (aNil))) (vs := [2]) (e := [some (.ref 0), none, none]) (m := m0) D.int (ns.take 63) (fun _ => true) (fun i => D.int (f i)) (by rw [w_iE, e1, v_bind, v_itL q1]) rfl (fun acc => gd_add (gd_one q1)) (by simp; omega) (fun i _ acc => ⟨_, rfl, rfl, fun _ => by rw [hf]; rfl⟩)
  rw [filt_t] at e2
  obtain ⟨cells, hcells⟩ : ∃ cells : List Int, cells = (ns.take 63).map f := ⟨_, rfl⟩
  have hmap : (ns.take 63).map (fun i => D.int (f i)) = cells.map D.int := by rw [hcells, List.map_map]; rfl
  rw [hmap] at e2
  obtain ⟨m2, hm2⟩ : ∃ m2 : Mem, m2 = m1 ++ [Cell.lst (cells.map D.int)] := ⟨_, rfl⟩
  rw [← hm2] at e2
  have q2 : m2[m1.length]? = some (.lst (cells.map D.int)) := by rw [hm2]; exact new_get
  obtain ⟨m3, hm3⟩ : ∃ m3 : Mem, m3 = m2 ++ [Cell.lst [.ref m1.length, .int 0, .int 0, .int (1 + (cells.length : Int)), .int 0]] := ⟨_, rfl⟩
  have q3 : m3[m2.length]? = some (.lst [.ref m1.length, .int 0, .int 0, .int (1 + (cells.length : Int)), .int 0]) := by rw [hm3]; exact new_get
  have q23 : m3[m1.length]? = some (.lst (cells.map D.int)) := by rw [hm3]; exact Pre.add _ _ q2
  have hlen : bLen [.ref m1.length] m2 = .ok (.int (cells.length : Int)) m2 := by rw [v_lenL q2]; simp
  refine ⟨m2.length, m3, ?_, m1.length, cells, 0, 0, 1 + (cells.length : Int), 0, q3, ?_, q23, by omega⟩
  · rw [← hm0]
    unfold f_law_hand afOf a_law_hand
    show ((sSeq (sAsg _ (gN 1)) _ [some (.ref 0), none, none] m0).f) = _
    rw [v_seq, s_asg e2, v_nx]
    have e3 : eCall mkLst (aCons (eVar 1) (aCons (eC (.int 0)) (aCons (eC (.int 0)) (aCons (eOp dAdd (eC (.int 1)) (eCall bLen (aCons (eVar 1) (aNil)))) (aCons (eC (.int 0)) (aNil)))))) (List.set [some (D.ref 0), none, none] 1 (some (D.ref m1.length))) m2 = .ok (.ref m2.length) m3 :=
      e_call (a_c rfl (a_c rfl (a_c rfl (a_c (e_op rfl (e_call (a_c rfl rfl) hlen) rfl) (a_c rfl rfl))))) (by rw [v_lst (by rw [hz]; simp), hm3])
    rw [s_ret e3, v_frt]
  · have : m2.length = m1.length + 1 := by rw [hm2]; simp
    omega
theorem w_madeN {m : Mem} {d : D} {n : Nat} {arr : List (Nat × Nat)} {rs rims : List (List Nat)} {o : Nat} {ps : List D} (Dw : Drawn' d n arr rs o ps) (F : Ch.Flat rs rims (2 * arr.length)) (hF : rs.length + rims.length = arr.length + 2) (hn : n ≤ 39) :
    Ok (f_law_made_chart [d] m) fun r m' => r = .ref m.length ∧ Pre m m' ∧ ChI m.length m' rs.length arr (rs.map begL) (lbX (rimsX rims (List.range (2 * arr.length))) o) ps := by
  obtain ⟨m1, hm1⟩ : ∃ m1 : Mem, m1 = m ++ [Cell.ins "Chart" []] := ⟨_, rfl⟩
  have p1 : Pre m m1 := by rw [hm1]; exact .add
  have q1 : m1[m.length]? = some (.ins "Chart" []) := by rw [hm1]; exact new_get
  obtain ⟨_, m2, e2, rfl, f2, q2⟩ := ok_ex (w_init (m := m1) (self := m.length) Dw.g F hF (by have := Dw.most; omega) Dw.out Dw.len Dw.pr q1)
  have hd := Dw.eq
  subst hd
  unfold f_law_made_chart afOf a_law_made_chart
  show Ok ((sRet _ [some (.tup [I rs.length, .tup (arr.map pD), .tup (rs.map tI), I o, .tup ps])] m).f) _
  have ea : (aCons (eOp dIx (eVar 0) (eC (.int 0))) (aCons (eOp dIx (eVar 0) (eC (.int 1))) (aCons (eOp dIx (eVar 0) (eC (.int 2))) (aCons (eOp dIx (eVar 0) (eC (.int 3))) (aCons (eOp dIx (eVar 0) (eC (.int 4))) (aNil)))))) [some (.tup [I rs.length, .tup (arr.map pD), .tup (rs.map tI), I o, .tup ps])] m = .ok [I rs.length, .tup (arr.map pD), .tup (rs.map tI), I o, .tup ps] m :=
    a_c (e_op rfl rfl (v_ixT (atI_nat (i := 0) rfl))) (a_c (e_op rfl rfl (v_ixT (atI_nat (i := 1) rfl))) (a_c (e_op rfl rfl (v_ixT (atI_nat (i := 2) rfl))) (a_c (e_op rfl rfl (v_ixT (atI_nat (i := 3) rfl))) (a_c (e_op rfl rfl (v_ixT (atI_nat (i := 4) rfl))) rfl))))
  have em : eMk "Chart" f_Chart_init (aCons (eOp dIx (eVar 0) (eC (.int 0))) (aCons (eOp dIx (eVar 0) (eC (.int 1))) (aCons (eOp dIx (eVar 0) (eC (.int 2))) (aCons (eOp dIx (eVar 0) (eC (.int 3))) (aCons (eOp dIx (eVar 0) (eC (.int 4))) (aNil)))))) [some (.tup [I rs.length, .tup (arr.map pD), .tup (rs.map tI), I o, .tup ps])] m = .ok (.ref m.length) m2 := by
    unfold eMk
    rw [ea, v_bind, ← hm1, e2]
  rw [s_ret em, v_frt]
  exact ⟨rfl, fun i cc e => f2 _ _ (p1 _ _ e) (by have := (List.getElem?_eq_some_iff.mp e).1; omega), q2⟩
noncomputable def wLawTail : AS :=
    (sSeq (sIf (tNt (tVal (eCall f_law_is_4 (aCons (eCall mkLst (aCons (eCall f_asks (aCons (eVar 4) (aNil))) (aCons (eCall f_tips (aCons (eVar 4) (aNil))) (aCons (eCall f_tangled (aCons (eVar 4) (aNil))) (aNil))))) (aCons (eCall mkLst (aCons (eVar 8) (aCons (eVar 7) (aCons (eVar 9) (aNil))))) (aNil))))))
    (sRet (eC (.bl false)))
    (sSkip))
    (sIf (tAn (tVal (eOp dIsN (eVar 9) (eC .non))) (tVal (eOp dNe (eCall bSumB (aCons (eVar 8) (aNil))) (eCall bLen (aCons (eVar 7) (aNil))))))
    (sRet (eC (.bl false)))
    (sSkip)))
noncomputable def wLaw2 : AS :=
    (sSeq (sAsg (eCall f_law_chart (aCons (eVar 1) (aCons (eIf (tVal (eOp dEq (eCall f_law_draw (aCons (eVar 1) (aCons (eC (.int 5)) (aNil)))) (eC (.int 0)))) (eC (.int 39)) (eC (.int 10))) (aCons (eOp dEq (eCall f_law_draw (aCons (eVar 1) (aCons (eC (.int 3)) (aNil)))) (eC (.int 0))) (aNil))))) (gN 3))
    (sSeq (sAsg (eCall f_law_made_chart (aCons (eVar 3) (aNil))) (gN 4))
    (sSeq (sAsg (eCall f_law_rims (aCons (eOp dIx (eVar 3) (eC (.int 2))) (aNil))) (gN 5))
    (sSeq (sAsg (eCall f_rims (aCons (eVar 4) (aNil))) (gN 6))
    (sSeq (sIf (tOrr (tNt (tVal (eCall f_law_is_4 (aCons (eVar 6) (aCons (eVar 5) (aNil)))))) (tVal (eOp dNe (eOp dAdd (eOp dIx (eVar 3) (eC (.int 0))) (eCall bLen (aCons (eVar 5) (aNil)))) (eOp dAdd (eCall bLen (aCons (eOp dIx (eVar 3) (eC (.int 1))) (aNil))) (eC (.int 2))))))
    (sRet (eC (.bl false)))
    (sSkip))
    (sSeq (sExp (eMt isL mAppend (eVar 6) (aCons (eCall mkTup (aNil)) (aNil))))
    (sSeq (sIf (tOrr (tNt (tVal (eCall f_law_is_4 (aCons (eCall f_rims (aCons (eVar 4) (aNil))) (aCons (eVar 5) (aNil)))))) (tNt (tVal (eCall f_law_angles_right (aCons (eVar 3) (aCons (eVar 4) (aCons (eVar 5) (aNil))))))))
    (sRet (eC (.bl false)))
    (sSkip))
    (sSeq (sAsg (eCall bTuple (aCons (eCall f_law_tips (aCons (eOp dIx (eVar 3) (eC (.int 2))) (aNil))) (aNil))) (gN 7))
    (sSeq (sAsg (eCall bTuple (aCons (eCall f_law_asks (aCons (eVar 3) (aCons (eOp dIx (eVar 3) (eC (.int 3))) (aNil)))) (aNil))) (gN 8))
    (sSeq (sAsg (eCall f_law_tangled (aCons (eOp dIx (eVar 3) (eC (.int 2))) (aNil))) (gN 9))
    wLawTail))))))))))
abbrev E10 (h : Nat) (y2 y3 y4 y5 y6 y7 y8 y9 : Option D) : Env' := [some (.ref 0), some (.ref h), y2, y3, y4, y5, y6, y7, y8, y9]
theorem tan_beg (rs : List (List Nat)) : tanD (rs.map begL) = tanD rs := by
  unfold tanD
  rw [idxs_map (Q := tanQ) fun r => by show decide (2 < Ch.sN (begL r)) = _; rw [Ch.sN_turn (begL_turn r)]]
theorem tip_beg (rs : List (List Nat)) : idxsK tipQ (rs.map begL) 0 = idxsK tipQ rs 0 :=
  idxs_map (Q := tipQ) (fun r => by show decide (Ch.sN (begL r) = 0) = _; rw [Ch.sN_turn (begL_turn r)]) rs 0
/-- the end of a turn -/
theorem w_tail {h : Nat} {m : Mem} {y2 y3 y5 y6 : Option D} {arr : List (Nat × Nat)} {rs rims : List (List Nat)} {c P o : Nat} {ps : List D} (g : G arr rs) (F : Ch.Flat rs rims (2 * arr.length)) (hF : rs.length + rims.length = arr.length + 2) (hn : arr.length ≤ 39) (ho : o < 2 * arr.length) (C : ChI c m P arr (rs.map begL) (lbX (rimsX rims (List.range (2 * arr.length))) o) ps) :
    ∃ m', wLawTail (E10 h y2 y3 (some (.ref c)) y5 y6 (some (.tup ((idxsK tipQ rs 0).map I))) (some (.tup ((rimsX rims (List.range (2 * arr.length))).map (asD (Ch.nxt rs) o)))) (some (tanD rs))) m = .nx (E10 h y2 y3 (some (.ref c)) y5 y6 (some (.tup ((idxsK tipQ rs 0).map I))) (some (.tup ((rimsX rims (List.range (2 * arr.length))).map (asD (Ch.nxt rs) o)))) (some (tanD rs))) m' ∧ Pre m m' := by
  have hz : sizeLine = 2 ^ 24 := rfl
  have F' := flat_beg (arr := arr) F
  have A := rimsX_perm F (by omega)
  have hrows := g.rows
  have hrr : ∀ r ∈ rs.map begL, r.length < 1000 := fun r hr => by
    obtain ⟨q, hq, rfl⟩ := List.mem_map.mp hr
    rw [begL_len]
    have := g.row hq
    omega
  obtain ⟨_, m1, e1, rfl, p1⟩ := ok_ex (w_asks C F' (by omega))
  obtain ⟨_, m2, e2, rfl, p2⟩ := ok_ex (w_tips (C.pre p1) hrr (by simp; omega))
  obtain ⟨_, m3, e3, rfl, p3⟩ := ok_ex (w_tangled ((C.pre p1).pre p2) hrr)
  rw [tip_beg] at e2
  rw [tan_beg] at e3
  obtain ⟨fs, hfs⟩ : ∃ fs, fs = rimsX rims (List.range (2 * arr.length)) := ⟨_, rfl⟩
  rw [← hfs] at e1 A C ⊢
  have hfl : fs.length ≤ 200 := by rw [A.len]; have := rims_len F; omega
  have heq : fs.map (asD (Ch.nxt (rs.map begL)) (lbX fs o)) = fs.map (asD (Ch.nxt rs) o) := by
    apply List.map_congr_left
    intro f hf
    unfold asD asI
    have h1 : f.countP (Ch.isFork (Ch.nxt (rs.map begL))) = f.countP (Ch.isFork (Ch.nxt rs)) := by
      apply List.countP_congr
      intro x hx
      unfold Ch.isFork
      rw [nxt_beg F (A.lt f hf x hx)]
    have h2 := lb_in (A.perm.nodup_iff.mpr List.nodup_range) A.ne (A.has o ho) hf
    rw [h1]
    by_cases z : o ∈ f
    · rw [if_pos z, if_pos (h2.mpr z)]
    · rw [if_neg z, if_neg (fun q => z (h2.mp q))]
  rw [heq] at e1
  obtain ⟨T1, hT1⟩ : ∃ T1, T1 = D.tup (fs.map (asD (Ch.nxt rs) o)) := ⟨_, rfl⟩
  obtain ⟨T2, hT2⟩ : ∃ T2, T2 = D.tup ((idxsK tipQ rs 0).map I) := ⟨_, rfl⟩
  rw [← hT1] at e1 ⊢
  rw [← hT2] at e2 ⊢
  obtain ⟨m4, hm4⟩ : ∃ m4, m4 = m3 ++ [Cell.lst [T1, T2, tanD rs]] := ⟨_, rfl⟩
  obtain ⟨m5, hm5⟩ : ∃ m5, m5 = m4 ++ [Cell.lst [T1, T2, tanD rs]] := ⟨_, rfl⟩
  have p4 : Pre m3 m4 := by rw [hm4]; exact .add
  have p5 : Pre m4 m5 := by rw [hm5]; exact .add
  have q4 : m4[m3.length]? = some (.lst [T1, T2, tanD rs]) := by rw [hm4]; exact new_get
  have q5 : m5[m4.length]? = some (.lst [T1, T2, tanD rs]) := by rw [hm5]; exact new_get
  have hasI : fs.map (asD (Ch.nxt rs) o) = (fs.map (asI (Ch.nxt rs) o)).map D.int := by rw [List.map_map]; rfl
  have hIi : (idxsK tipQ rs 0).map I = ((idxsK tipQ rs 0).map fun (n : Nat) => (n : Int)).map D.int := by rw [List.map_map]; rfl
  have htl : (idxsK tipQ rs 0).length ≤ 100 := by rw [idxs_len]; have := List.countP_le_length (p := tipQ) (l := rs); omega
  have hal : Al f_law_is_4 (.ref m3.length) (.ref m4.length) m5 := by
    rw [isff4]
    refine al_row (t := "list") (.inr ⟨_, rfl, p5 _ _ q4, rfl⟩) (.inr ⟨_, rfl, q5, rfl⟩) rfl (by simp) (fun i a b ha hb => ?_)
    match i, ha, hb with
    | 0, ha, hb => cases ha; cases hb; rw [hT1, hasI]; exact al_rowI (by simp; omega)
    | 1, ha, hb => cases ha; cases hb; rw [hT2, hIi]; exact al_rowI (by simp; omega)
    | 2, ha, hb =>
      cases ha; cases hb
      unfold tanD
      cases (idxsK tanQ rs 0).head? with
      | none => exact al_non
      | some i => exact al_I
    | i + 3, ha, hb => simp at ha
  obtain ⟨_, m6, e6, rfl, p6⟩ := ok_ex (hal m5 .refl)
  refine ⟨m6, ?_, ((((p1.trans p2).trans p3).trans p4).trans p5).trans p6⟩
  unfold wLawTail
  have t1 : tVal (eCall f_law_is_4 (aCons (eCall mkLst (aCons (eCall f_asks (aCons (eVar 4) (aNil))) (aCons (eCall f_tips (aCons (eVar 4) (aNil))) (aCons (eCall f_tangled (aCons (eVar 4) (aNil))) (aNil))))) (aCons (eCall mkLst (aCons (eVar 8) (aCons (eVar 7) (aCons (eVar 9) (aNil))))) (aNil)))) (E10 h y2 y3 (some (.ref c)) y5 y6 (some T2) (some T1) (some (tanD rs))) m = .ok true m6 :=
    t_v (e_call (a_c (e_call (a_c (e_call (a_c rfl rfl) e1) (a_c (e_call (a_c rfl rfl) e2) (a_c (e_call (a_c rfl rfl) e3) rfl))) (show mkLst [T1, T2, tanD rs] m3 = .ok (.ref m3.length) m4 by rw [mkL3, hm4])) (a_c (e_call (a_c rfl (a_c rfl (a_c rfl rfl))) (show mkLst [T1, T2, tanD rs] m4 = .ok (.ref m4.length) m5 by rw [mkL3, hm5])) rfl)) e6)
  have t2 : (tAn (tVal (eOp dIsN (eVar 9) (eC .non))) (tVal (eOp dNe (eCall bSumB (aCons (eVar 8) (aNil))) (eCall bLen (aCons (eVar 7) (aNil)))))) (E10 h y2 y3 (some (.ref c)) y5 y6 (some T2) (some T1) (some (tanD rs))) m6 = .ok false m6 := by
    cases hh : (idxsK tanQ rs 0).head? with
    | some i =>
      have : tanD rs = I i := by unfold tanD; rw [hh]
      rw [this]
      exact t_anF (t_v (e_op rfl rfl rfl))
    | none =>
      have : tanD rs = .non := by unfold tanD; rw [hh]
      rw [this]
      have hu : ∀ r ∈ rs, Ch.sN r ≤ 2 := fun r hr => by
        have := idxs_none rs 0 hh r hr
        simpa [tanQ] using this
      have hs := Ch.sum_asks F hF A.perm A.len (nx := Ch.nxt rs) (fun x y h => Ch.nxt_eq F.nd h) hu ho
      have b1 : bSumB [T1] m6 = .ok (.int (fs.map (asI (Ch.nxt rs) o)).sum) m6 := by
        rw [hT1, hasI]
        unfold bSumB
        dsimp only
        rw [intsD_map]
      have b2 : bLen [T2] m6 = .ok (.int (((idxsK tipQ rs 0).length : Nat) : Int)) m6 := by
        rw [hT2, v_lenT]; simp
      refine t_anT (t_v (e_op rfl rfl rfl)) (t_v (e_op (e_call (a_c rfl rfl) b1) (e_call (a_c rfl rfl) b2) ?_))
      rw [w_neI, idxs_len]
      have : (fs.map (asI (Ch.nxt rs) o)).sum = ((rs.countP tipQ : Nat) : Int) := hs
      rw [this]; simp
  rw [v_seq, v_sifF (t_nt t1), v_skip, v_nx, v_sifF t2, v_skip]
end Cl
set_option Elab.async false
set_option linter.all false
set_option maxRecDepth 100000
namespace Cl
open PySem PySem.Spec PyProof.Rows L2 Ab
theorem mk0T {m : Mem} : mkTup [] m = .ok (.tup []) m := if_pos (by rw [show sizeLine = 2 ^ 24 from rfl]; simp)
theorem HandC.pre2 {h c : Nat} {m m' : Mem} (H : HandC h c m) (a : Pre m m') : HandC h c m' := by
  obtain ⟨cells, i, big, seed, cnt, h1, h2, h3, h4⟩ := H
  exact ⟨cells, i, big, seed, cnt, a _ _ h1, h2, a _ _ h3, h4⟩
theorem w_law2 {h : Nat} {m : Mem} {y2 y3 y4 y5 y6 y7 y8 y9 : Option D} (H : HandOK h m) : Nx (wLaw2 (E10 h y2 y3 y4 y5 y6 y7 y8 y9) m) fun e' m' => (∃ z3 z4 z5 z6 z7 z8 z9, e' = E10 h y2 z3 z4 z5 z6 z7 z8 z9) ∧ HandOK h m' := by
  have hz : sizeLine = 2 ^ 24 := rfl
  obtain ⟨_, m1, e1, v1, rfl, hv1, f1, H1⟩ := ok_ex (w_draw H (many := 5) (by decide) (by decide))
  obtain ⟨most, hm1, hm2, hmost⟩ : ∃ most : Nat, 0 < most ∧ most < 40 ∧ eIf (tVal (eOp dEq (eCall f_law_draw (aCons (eVar 1) (aCons (eC (.int 5)) (aNil)))) (eC (.int 0)))) (eC (.int 39)) (eC (.int 10)) (E10 h y2 y3 y4 y5 y6 y7 y8 y9) m = .ok (I most) m1 := by
    have t1 : tVal (eOp dEq (eCall f_law_draw (aCons (eVar 1) (aCons (eC (.int 5)) (aNil)))) (eC (.int 0))) (E10 h y2 y3 y4 y5 y6 y7 y8 y9) m = .ok (decide (v1 = 0)) m1 := t_v (e_op (e_call (a_c rfl (a_c rfl rfl)) e1) rfl (eq0 _ _))
    cases hd : decide (v1 = 0) with
    | true => rw [hd] at t1; exact ⟨39, by decide, by decide, (e_ifT t1).trans rfl⟩
    | false => rw [hd] at t1; exact ⟨10, by decide, by decide, (e_ifF t1).trans rfl⟩
  obtain ⟨_, m2, e2, v2, rfl, hv2, f2, H2⟩ := ok_ex (w_draw H1 (many := 3) (by decide) (by decide))
  obtain ⟨bt, hbt⟩ : ∃ bt, bt = decide (v2 = 0) := ⟨_, rfl⟩
  have hflag : eOp dEq (eCall f_law_draw (aCons (eVar 1) (aCons (eC (.int 3)) (aNil)))) (eC (.int 0)) (E10 h y2 y3 y4 y5 y6 y7 y8 y9) m1 = .ok (.bl bt) m2 := e_op (e_call (a_c rfl (a_c rfl rfl)) e2) rfl (by rw [hbt]; exact eq0 _ _)
  obtain ⟨d, m3, e3, f3, H3, arr, rs, o, ps, Dw⟩ := ok_ex (w_chartB (bt := bt) H2 (most := most) hm1 hm2)
  have g := Dw.g
  obtain ⟨rims, F, hF⟩ := g.flat
  have hn := Dw.most
  have hrows := g.rows
  obtain ⟨hc, H3c⟩ := H3.ex
  have hlt3 := H3c.lt
  obtain ⟨_, m4, e4, rfl, p4, C4⟩ := ok_ex (w_madeN (m := m3) Dw F hF (by omega))
  have hc4 : m3.length < m4.length := (List.getElem?_eq_some_iff.mp C4).1
  have F' := flat_beg (arr := arr) F
  obtain ⟨_, m5, e5, kd, rfl, p5, l5, q5⟩ := ok_ex (w_lrims (m := m4) F (by omega))
  have hkd : kd < m5.length := (List.getElem?_eq_some_iff.mp q5).1
  have C5 := C4.pre p5
  obtain ⟨_, m6, e6, kt, rfl, p6, l6, q6, A⟩ := ok_ex (w_rims_ch C5 F' (by omega))
  obtain ⟨fs, hfs⟩ : ∃ fs, fs = rimsX rims (List.range (2 * arr.length)) := ⟨_, rfl⟩
  have hfl : fs.length ≤ 200 := by rw [hfs, A.len]; have := rims_len F; omega
  have hff : ∀ f ∈ fs, f.length < 1000 := fun f hf => by
    obtain ⟨a, b, hab⟩ := Ch.mem_cut hf
    have := A.perm.length_eq
    rw [← hfs, hab, List.length_range] at this
    simp [List.length_flatten] at this
    omega
  rw [← hfs] at q5 q6
  have q56 := p6 _ _ q5
  obtain ⟨_, m7, e7, rfl, p7⟩ := ok_ex (show Ok (f_law_is_4 [.ref kt, .ref kd] m6) _ from by rw [isff4]; exact al_fs q6 q56 (by omega) hff m6 .refl)
  have hlm5 := p5.len
  have hlm4 := p4.len
  -- the list is made longer
  have q67 := p7 _ _ q6
  obtain ⟨m8, hm8⟩ : ∃ m8, m8 = m7.set kt (.lst (fs.map tI ++ [.tup []])) := ⟨_, rfl⟩
  have happ : mAppend (.ref kt) [.tup []] m7 = .ok .non m8 := by rw [hm8]; exact v_append q67 (by simp; omega)
  have keep : ∀ {i : Nat} {cc : Cell}, m7[i]? = some cc → i ≠ kt → m8[i]? = some cc := fun e n => by rw [hm8, List.getElem?_set_ne (Ne.symm n)]; exact e
  have P37 : Pre m3 m7 := ((p4.trans p5).trans p6).trans p7
  have H8 : HandOK h m8 := by
    rw [hm8]
    exact ((H3c.pre2 P37).set (by omega) (by omega)).ok
  have C8 : ChI m3.length m8 rs.length arr (rs.map begL) (lbX (rimsX rims (List.range (2 * arr.length))) o) ps := keep ((C5.pre p6).pre p7) (by omega)
  have q58 : m8[kd]? = some (.lst (fs.map tI)) := keep (p7 _ _ q56) (by omega)
  obtain ⟨_, m9, e9, kt2, rfl, p9, l9, q9, _⟩ := ok_ex (w_rims_ch C8 F' (by omega))
  rw [← hfs] at q9
  obtain ⟨_, m10, e10, rfl, p10⟩ := ok_ex (show Ok (f_law_is_4 [.ref kt2, .ref kd] m9) _ from by rw [isff4]; exact al_fs q9 (p9 _ _ q58) (by omega) hff m9 .refl)
  have C10 := (C8.pre p9).pre p10
  have hdq := Dw.eq
  obtain ⟨_, m11, e11, rfl, p11⟩ := ok_ex (w_angles (m := m10) (d0 := I rs.length) (d3 := I o) (d4 := .tup ps) F (by omega) hfs C10 (p10 _ _ (p9 _ _ q58)))
  rw [← hdq] at e11
  obtain ⟨_, m12, e12, rfl, p12, q12⟩ := ok_ex (w_ltips (rs := rs) F.rne (fun r hr => by have := g.row hr; omega) (by omega) m11)
  obtain ⟨_, m13, e13, ka, rfl, p13, q13⟩ := ok_ex (w_lasks (m := m12) (o := o) (d0 := I rs.length) (d1 := .tup (arr.map pD)) (d3 := I o) (d4 := .tup ps) F (by omega))
  rw [← hdq] at e13
  obtain ⟨_, m14, e14, rfl, p14⟩ := ok_ex (w_ltangled (rs := rs) (fun r hr => by have := g.row hr; omega) (by omega) m13)
  have P8 : Pre m8 m14 := ((((p9.trans p10).trans p11).trans p12).trans p13).trans p14
  obtain ⟨m15, e15, p15⟩ := w_tail (h := h) (y2 := y2) (y3 := some d) (y5 := some (.ref kd)) (y6 := some (.ref kt)) g F hF (by omega) Dw.out (C8.pre P8)
  have x0 : ∀ m, dIx d (.int 0) m = .ok (I rs.length) m := fun m => by rw [hdq]; exact v_ixT (atI_nat (i := 0) rfl)
  have x1 : ∀ m, dIx d (.int 1) m = .ok (.tup (arr.map pD)) m := fun m => by rw [hdq]; exact v_ixT (atI_nat (i := 1) rfl)
  have x2 : ∀ m, dIx d (.int 2) m = .ok (.tup (rs.map tI)) m := fun m => by rw [hdq]; exact v_ixT (atI_nat (i := 2) rfl)
  have x3 : ∀ m, dIx d (.int 3) m = .ok (I o) m := fun m => by rw [hdq]; exact v_ixT (atI_nat (i := 3) rfl)
  unfold wLaw2
  rw [v_seq, s_asg (e_call (a_c rfl (a_c hmost (a_c hflag rfl))) e3), v_nx, v_seq]
  show Nx (O.seq (sAsg _ (gN 4) (E10 h y2 (some d) y4 y5 y6 y7 y8 y9) m3) _) _
  rw [s_asg (e_call (a_c rfl rfl) e4), v_nx, v_seq]
  show Nx (O.seq (sAsg _ (gN 5) (E10 h y2 (some d) (some (.ref m3.length)) y5 y6 y7 y8 y9) m4) _) _
  rw [s_asg (e_call (a_c (e_op rfl rfl (x2 _)) rfl) e5), v_nx, v_seq]
  show Nx (O.seq (sAsg _ (gN 6) (E10 h y2 (some d) (some (.ref m3.length)) (some (.ref kd)) y6 y7 y8 y9) m5) _) _
  rw [s_asg (e_call (a_c rfl rfl) e6), v_nx, v_seq]
  show Nx (O.seq (sIf _ _ _ (E10 h y2 (some d) (some (.ref m3.length)) (some (.ref kd)) (some (.ref kt)) y7 y8 y9) m6) _) _
  have tt1 : (tOrr (tNt (tVal (eCall f_law_is_4 (aCons (eVar 6) (aCons (eVar 5) (aNil)))))) (tVal (eOp dNe (eOp dAdd (eOp dIx (eVar 3) (eC (.int 0))) (eCall bLen (aCons (eVar 5) (aNil)))) (eOp dAdd (eCall bLen (aCons (eOp dIx (eVar 3) (eC (.int 1))) (aNil))) (eC (.int 2)))))) (E10 h y2 (some d) (some (.ref m3.length)) (some (.ref kd)) (some (.ref kt)) y7 y8 y9) m6 = .ok false m7 := by
    have hl7 : bLen [.ref kd] m7 = .ok (I fs.length) m7 := by rw [v_lenL (p7 _ _ q56)]; simp [I]
    have hsum : rs.length + fs.length = arr.length + 2 := by rw [hfs, A.len]; exact hF
    refine t_orF (t_nt (t_v (e_call (a_c rfl (a_c rfl rfl)) e7))) (t_v (e_op (e_op (e_op rfl rfl (x0 _)) (e_call (a_c rfl rfl) hl7) rfl) (e_op (e_call (a_c (e_op rfl rfl (x1 _)) rfl) (lenA _ _)) rfl rfl) ?_))
    rw [w_neI]
    have : ((rs.length : Int) + (fs.length : Int)) = (arr.length : Int) + 2 := by omega
    rw [this]; simp
  rw [v_sifF tt1, v_skip, v_nx, v_seq, s_exp (e_mt rfl (w_isL q67) (a_c (e_call rfl mk0T) rfl) happ), v_nx, v_seq]
  have tt2 : (tOrr (tNt (tVal (eCall f_law_is_4 (aCons (eCall f_rims (aCons (eVar 4) (aNil))) (aCons (eVar 5) (aNil)))))) (tNt (tVal (eCall f_law_angles_right (aCons (eVar 3) (aCons (eVar 4) (aCons (eVar 5) (aNil)))))))) (E10 h y2 (some d) (some (.ref m3.length)) (some (.ref kd)) (some (.ref kt)) y7 y8 y9) m8 = .ok false m11 :=
    t_orF (t_nt (t_v (e_call (a_c (e_call (a_c rfl rfl) e9) (a_c rfl rfl)) e10))) (t_nt (t_v (e_call (a_c rfl (a_c rfl (a_c rfl rfl))) e11)))
  rw [v_sifF tt2, v_skip, v_nx, v_seq]
  rw [s_asg (e_call (a_c (e_call (a_c (e_op rfl rfl (x2 _)) rfl) e12) rfl) (v_tupL q12)), v_nx, v_seq]
  show Nx (O.seq (sAsg _ (gN 8) (E10 h y2 (some d) (some (.ref m3.length)) (some (.ref kd)) (some (.ref kt)) (some (.tup ((idxsK tipQ rs 0).map I))) y8 y9) m12) _) _
  rw [s_asg (e_call (a_c (e_call (a_c rfl (a_c (e_op rfl rfl (x3 _)) rfl)) e13) rfl) (v_tupL q13)), v_nx, v_seq]
  show Nx (O.seq (sAsg _ (gN 9) (E10 h y2 (some d) (some (.ref m3.length)) (some (.ref kd)) (some (.ref kt)) (some (.tup ((idxsK tipQ rs 0).map I))) (some (.tup ((rimsX rims (List.range (2 * arr.length))).map (asD (Ch.nxt rs) o)))) y9) m13) _) _
  rw [s_asg (e_call (a_c (e_op rfl rfl (x2 _)) rfl) e14), v_nx]
  show Nx (wLawTail (E10 h y2 (some d) (some (.ref m3.length)) (some (.ref kd)) (some (.ref kt)) (some (.tup ((idxsK tipQ rs 0).map I))) (some (.tup ((rimsX rims (List.range (2 * arr.length))).map (asD (Ch.nxt rs) o)))) (some (tanD rs))) m14) _
  rw [e15, nx_nx]
  exact ⟨⟨_, _, _, _, _, _, _, rfl⟩, HandOK.pre H8 (P8.trans p15)⟩
theorem pure_law (ns : List Int) (hl : ns.length ≤ 63) : ∃ m, f_law [.ref 0] [.rol (ns.map D.int)] = .ok (.bl true) m := by
  obtain ⟨h, m1, e1, H1⟩ := w_handN ns hl
  unfold f_law afOf a_law
  show ∃ m, ((sSeq (sAsg (eCall f_law_hand (aCons (eVar 0) (aNil))) (gN 1)) (sSeq (sFor (iA rng1 (aCons (eC (.int 3)) (aNil))) (gN 2) wLaw2) (sRet (eC (.bl true)))) [some (.ref 0), none, none, none, none, none, none, none, none, none] [.rol (ns.map D.int)]).f) = _
  have e0 : eCall f_law_hand (aCons (eVar 0) (aNil)) [some (.ref 0), none, none, none, none, none, none, none, none, none] [.rol (ns.map D.int)] = .ok (.ref h) m1 := e_call (a_c rfl rfl) e1
  rw [v_seq, s_asg e0, v_nx, v_seq]
  have hx : (aCons (eC (.int 3)) (aNil)) (E10 h none none none none none none none none) m1 = .ok [I 3] m1 := rfl
  have hf : Nx (sFor (iA rng1 (aCons (eC (.int 3)) (aNil))) (gN 2) wLaw2 (E10 h none none none none none none none none) m1) fun e' m' => True := by
    rw [w_for, w_rng1 hx (by decide), v_o]
    let Inv : List D → Env' → Mem → Prop := fun _ e' m' => (∃ y2 y3 y4 y5 y6 y7 y8 y9, e' = E10 h y2 y3 y4 y5 y6 y7 y8 y9) ∧ HandOK h m'
    refine nx_mono (forL_go (b := wLaw2) Inv ?_ (fun _ _ _ => gd_nil) _ _ _ ⟨⟨_, _, _, _, _, _, _, _, rfl⟩, H1⟩) (fun _ _ _ => trivial)
    rintro d rest e2 m2 ⟨⟨y2, y3, y4, y5, y6, y7, y8, y9, rfl⟩, H2⟩
    refine ⟨gd_nil, E10 h (some d) y3 y4 y5 y6 y7 y8 y9, rfl, ?_⟩
    refine nx_mono (w_law2 H2) ?_
    rintro e' m' ⟨⟨z3, z4, z5, z6, z7, z8, z9, rfl⟩, H3⟩
    exact ⟨⟨_, _, _, _, _, _, _, _, rfl⟩, H3⟩
  show ∃ m, (O.seq (sFor (iA rng1 (aCons (eC (.int 3)) (aNil))) (gN 2) wLaw2 (E10 h none none none none none none none none) m1) _).f = _
  cases hq : sFor (iA rng1 (aCons (eC (.int 3)) (aNil))) (gN 2) wLaw2 (E10 h none none none none none none none none) m1 with
  | nx e2 m2 => exact ⟨m2, rfl⟩
  | _ => rw [hq] at hf; exact hf.elim
end Cl
open PySem PySem.W PyProof.Rows in
set_option maxRecDepth 100000 in
set_option maxHeartbeats 0 in
theorem PySem.Challenge.cw_bigcorners_k02_whole_rims_words_and_asks_holds : PySem.Challenge.rw_bigcorners_k02_whole_rims_words_and_asks.Holds := by
  w_on; o_law; k_head; (case hw => w_witness2)
  k_fill
  refine Ab.walkA (k := 8) (x := "script") (l := PySem.Challenge.rw_bigcorners_k02_whole_rims_words_and_asks) rfl rfl ⟨rfl, by decide, by decide⟩ (fun w h Y => PySem.W.kIn_of Y) ?F
  case F =>
    intro w mg fa h KX G hmg
    refine' Cl.all_mk KX G hmg ?d_is_whole ?d_is_between ?d_is_row ?d_are_whole ?d_begun_least ?d_least_beside ?d_other_end ?d_rim_from ?d_rims_between ?d_hang_together ?d_is_price ?d_wrong_arrow ?d_ends_by_place ?d_wrong_round ?d_wrong_part ?d_is_end ?d_rims ?d_rim_numbers ?d_rim_of ?d_sides ?d_word_between ?d_words ?d_word_at ?d_asks ?d_changes ?d_tips ?d_tangled ?d_law_is_straight ?d_law_after ?d_law_other ?d_law_rims ?d_law_rim_numbers ?d_law_is_1 ?d_law_hand ?d_law_draw ?d_law_put_behind ?d_law_straights ?d_law_hung ?d_law_tied ?d_law_chart ?d_law_made_chart ?d_law_tips ?d_law_asks ?d_law_tangled ?d_law_word ?d_law_angles_right ?d_law ?c_Chart ?n_arrows ?n_outer ?n_places ?n_prices ?n_rounds ?e_BadChart ?en_BadChart ?e_NoArrow ?e_NoEnd ?b_abs ?b_all ?b_bool ?b_enumerate ?b_int ?b_isinstance ?b_len ?b_list ?b_min ?b_range ?b_set ?b_sorted ?b_sum ?b_tuple ?b_zip ?k_MOST_PLACES ?k_MOST_ARROWS ?k_MOST_PRICE Cl.pure_law
    (case d_is_whole => refine' Ab.def_in ?a ?l ?c ?k; (case a => k_is); (case l => k_is); (case c => k_is); (case k => k_is))
    (case d_is_between => refine' Ab.def_in ?a ?l ?c ?k; (case a => k_is); (case l => k_is); (case c => k_is); (case k => k_is))
    (case d_is_row => refine' Ab.def_in ?a ?l ?c ?k; (case a => k_is); (case l => k_is); (case c => k_is); (case k => k_is))
    (case d_are_whole => refine' Ab.def_in ?a ?l ?c ?k; (case a => k_is); (case l => k_is); (case c => k_is); (case k => k_is))
    (case d_begun_least => refine' Ab.def_in ?a ?l ?c ?k; (case a => k_is); (case l => k_is); (case c => k_is); (case k => k_is))
    (case d_least_beside => refine' Ab.def_in ?a ?l ?c ?k; (case a => k_is); (case l => k_is); (case c => k_is); (case k => k_is))
    (case d_other_end => refine' Ab.def_in ?a ?l ?c ?k; (case a => k_is); (case l => k_is); (case c => k_is); (case k => k_is))
    (case d_rim_from => refine' Ab.def_in ?a ?l ?c ?k; (case a => k_is); (case l => k_is); (case c => k_is); (case k => k_is))
    (case d_rims_between => refine' Ab.def_in ?a ?l ?c ?k; (case a => k_is); (case l => k_is); (case c => k_is); (case k => k_is))
    (case d_hang_together => refine' Ab.def_in ?a ?l ?c ?k; (case a => k_is); (case l => k_is); (case c => k_is); (case k => k_is))
    (case d_is_price => refine' Ab.def_in ?a ?l ?c ?k; (case a => k_is); (case l => k_is); (case c => k_is); (case k => k_is))
    (case d_wrong_arrow => refine' Ab.def_in ?a ?l ?c ?k; (case a => k_is); (case l => k_is); (case c => k_is); (case k => k_is))
    (case d_ends_by_place => refine' Ab.def_in ?a ?l ?c ?k; (case a => k_is); (case l => k_is); (case c => k_is); (case k => k_is))
    (case d_wrong_round => refine' Ab.def_in ?a ?l ?c ?k; (case a => k_is); (case l => k_is); (case c => k_is); (case k => k_is))
    (case d_wrong_part => refine' Ab.def_in ?a ?l ?c ?k; (case a => k_is); (case l => k_is); (case c => k_is); (case k => k_is))
    (case d_is_end => refine' Ab.def_in ?a ?l ?c ?k; (case a => k_is); (case l => k_is); (case c => k_is); (case k => k_is))
    (case d_rims => refine' Ab.def_in ?a ?l ?c ?k; (case a => k_is); (case l => k_is); (case c => k_is); (case k => k_is))
    (case d_rim_numbers => refine' Ab.def_in ?a ?l ?c ?k; (case a => k_is); (case l => k_is); (case c => k_is); (case k => k_is))
    (case d_rim_of => refine' Ab.def_in ?a ?l ?c ?k; (case a => k_is); (case l => k_is); (case c => k_is); (case k => k_is))
    (case d_sides => refine' Ab.def_in ?a ?l ?c ?k; (case a => k_is); (case l => k_is); (case c => k_is); (case k => k_is))
    (case d_word_between => refine' Ab.def_in ?a ?l ?c ?k; (case a => k_is); (case l => k_is); (case c => k_is); (case k => k_is))
    (case d_words => refine' Ab.def_in ?a ?l ?c ?k; (case a => k_is); (case l => k_is); (case c => k_is); (case k => k_is))
    (case d_word_at => refine' Ab.def_in ?a ?l ?c ?k; (case a => k_is); (case l => k_is); (case c => k_is); (case k => k_is))
    (case d_asks => refine' Ab.def_in ?a ?l ?c ?k; (case a => k_is); (case l => k_is); (case c => k_is); (case k => k_is))
    (case d_changes => refine' Ab.def_in ?a ?l ?c ?k; (case a => k_is); (case l => k_is); (case c => k_is); (case k => k_is))
    (case d_tips => refine' Ab.def_in ?a ?l ?c ?k; (case a => k_is); (case l => k_is); (case c => k_is); (case k => k_is))
    (case d_tangled => refine' Ab.def_in ?a ?l ?c ?k; (case a => k_is); (case l => k_is); (case c => k_is); (case k => k_is))
    (case d_law_is_straight => refine' Ab.def_in ?a ?l ?c ?k; (case a => k_is); (case l => k_is); (case c => k_is); (case k => k_is))
    (case d_law_after => refine' Ab.def_in ?a ?l ?c ?k; (case a => k_is); (case l => k_is); (case c => k_is); (case k => k_is))
    (case d_law_other => refine' Ab.def_in ?a ?l ?c ?k; (case a => k_is); (case l => k_is); (case c => k_is); (case k => k_is))
    (case d_law_rims => refine' Ab.def_in ?a ?l ?c ?k; (case a => k_is); (case l => k_is); (case c => k_is); (case k => k_is))
    (case d_law_rim_numbers => refine' Ab.def_in ?a ?l ?c ?k; (case a => k_is); (case l => k_is); (case c => k_is); (case k => k_is))
    (case d_law_is_1 => refine' Ab.def_in ?a ?l ?c ?k; (case a => k_is); (case l => k_is); (case c => k_is); (case k => k_is))
    (case d_law_hand => refine' Ab.def_in ?a ?l ?c ?k; (case a => k_is); (case l => k_is); (case c => k_is); (case k => k_is))
    (case d_law_draw => refine' Ab.def_in ?a ?l ?c ?k; (case a => k_is); (case l => k_is); (case c => k_is); (case k => k_is))
    (case d_law_put_behind => refine' Ab.def_in ?a ?l ?c ?k; (case a => k_is); (case l => k_is); (case c => k_is); (case k => k_is))
    (case d_law_straights => refine' Ab.def_in ?a ?l ?c ?k; (case a => k_is); (case l => k_is); (case c => k_is); (case k => k_is))
    (case d_law_hung => refine' Ab.def_in ?a ?l ?c ?k; (case a => k_is); (case l => k_is); (case c => k_is); (case k => k_is))
    (case d_law_tied => refine' Ab.def_in ?a ?l ?c ?k; (case a => k_is); (case l => k_is); (case c => k_is); (case k => k_is))
    (case d_law_chart => refine' Ab.def_in ?a ?l ?c ?k; (case a => k_is); (case l => k_is); (case c => k_is); (case k => k_is))
    (case d_law_made_chart => refine' Ab.def_in ?a ?l ?c ?k; (case a => k_is); (case l => k_is); (case c => k_is); (case k => k_is))
    (case d_law_tips => refine' Ab.def_in ?a ?l ?c ?k; (case a => k_is); (case l => k_is); (case c => k_is); (case k => k_is))
    (case d_law_asks => refine' Ab.def_in ?a ?l ?c ?k; (case a => k_is); (case l => k_is); (case c => k_is); (case k => k_is))
    (case d_law_tangled => refine' Ab.def_in ?a ?l ?c ?k; (case a => k_is); (case l => k_is); (case c => k_is); (case k => k_is))
    (case d_law_word => refine' Ab.def_in ?a ?l ?c ?k; (case a => k_is); (case l => k_is); (case c => k_is); (case k => k_is))
    (case d_law_angles_right => refine' Ab.def_in ?a ?l ?c ?k; (case a => k_is); (case l => k_is); (case c => k_is); (case k => k_is))
    (case d_law => refine' Ab.def_in ?a ?l ?c ?k; (case a => k_is); (case l => k_is); (case c => k_is); (case k => k_is))
    (case c_Chart => refine' Ab.cls_in ?aC ?pg ?hd ?po ?sa ?mk ?kc ?a1 ?i1 ?l ?c ?k; (case aC => k_is); (case pg => k_is); (case hd => k_is); (case po => k_is); (case sa => k_is); (case mk => k_is); (case kc => k_is); (case a1 => k_is); (case i1 => k_is); (case l => k_is); (case c => k_is); (case k => k_is))
    (case n_arrows => refine' Ab.no_in ?a ?f; (case a => k_is); (case f => k_is))
    (case n_outer => refine' Ab.no_in ?a ?f; (case a => k_is); (case f => k_is))
    (case n_places => refine' Ab.no_in ?a ?f; (case a => k_is); (case f => k_is))
    (case n_prices => refine' Ab.no_in ?a ?f; (case a => k_is); (case f => k_is))
    (case n_rounds => refine' Ab.no_in ?a ?f; (case a => k_is); (case f => k_is))
    (case e_BadChart => refine' Ab.err_in ?aC ?xL ?sa ?eC ?tC ?kC ?ga ?gg ?hC ?gc ?gs ?gt ?gm ?a1 ?i1 ?l ?c ?k ?bm; (case aC => k_is); (case xL => k_is); (case sa => k_is); (case eC => k_is); (case tC => k_is); (case kC => k_is); (case ga => k_is); (case gg => k_is); (case hC => k_is); (case gc => k_is); (case gs => k_is); (case gt => k_is); (case gm => k_is); (case a1 => k_is); (case i1 => k_is); (case l => k_is); (case c => k_is); (case k => k_is); (case bm => decide +kernel))
    (case en_BadChart => refine' Ab.no_in ?a ?f; (case a => k_is); (case f => k_is))
    (case e_NoArrow => refine' Ab.err_in ?aC ?xL ?sa ?eC ?tC ?kC ?ga ?gg ?hC ?gc ?gs ?gt ?gm ?a1 ?i1 ?l ?c ?k ?bm; (case aC => k_is); (case xL => k_is); (case sa => k_is); (case eC => k_is); (case tC => k_is); (case kC => k_is); (case ga => k_is); (case gg => k_is); (case hC => k_is); (case gc => k_is); (case gs => k_is); (case gt => k_is); (case gm => k_is); (case a1 => k_is); (case i1 => k_is); (case l => k_is); (case c => k_is); (case k => k_is); (case bm => decide +kernel))
    (case e_NoEnd => refine' Ab.err_in ?aC ?xL ?sa ?eC ?tC ?kC ?ga ?gg ?hC ?gc ?gs ?gt ?gm ?a1 ?i1 ?l ?c ?k ?bm; (case aC => k_is); (case xL => k_is); (case sa => k_is); (case eC => k_is); (case tC => k_is); (case kC => k_is); (case ga => k_is); (case gg => k_is); (case hC => k_is); (case gc => k_is); (case gs => k_is); (case gt => k_is); (case gm => k_is); (case a1 => k_is); (case i1 => k_is); (case l => k_is); (case c => k_is); (case k => k_is); (case bm => decide +kernel))
    (case b_abs => k_is)
    (case b_all => k_is)
    (case b_bool => k_is)
    (case b_enumerate => k_is)
    (case b_int => k_is)
    (case b_isinstance => k_is)
    (case b_len => k_is)
    (case b_list => k_is)
    (case b_min => k_is)
    (case b_range => k_is)
    (case b_set => k_is)
    (case b_sorted => k_is)
    (case b_sum => k_is)
    (case b_tuple => k_is)
    (case b_zip => k_is)
    (case k_MOST_PLACES => k_is)
    (case k_MOST_ARROWS => k_is)
    (case k_MOST_PRICE => k_is)
